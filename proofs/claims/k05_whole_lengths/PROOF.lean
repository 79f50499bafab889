import PyProof.Rows.All
import Wide.All
import OpenK.AllK
import Wide.FinOn
import PyProof.EqAt
import PyProof.EqKinds
import PyProof.TupleCall
import HandS.Base
import HandS.Call
import HandS.List
import HandS.Comp
import HandS.Ends
import HandS.Words
import HandS.WordsList
import HandS.Exc
import HandS.ExcInit
import HandS.ExcIs
import HandS.OwnEq
import HandS.IsInst
import HandS.ExcOwn
import HandS.ExcField
import HandS.WordsExc
import HandS.TryOnly
import HandS.TryMany
import HandS.CallSlots
import HandS.Wide
import HandS.Codes
import KE.KTupSum
import PyProof.ListRange
import KE.GoesEnum
import HandS.Iter
import HandS.Walk
import HandS.HotCalls
import KE.KEqNest
import HandS.MakeKwOnly
import HandS.TupAny
import HandS.Strs
import HandS.Deep
import HandS.Zip
import HandS.Star
import HandS.Conv
import HandS.IterVal
import HandS.ListItems
import KE.KDictZip
import KE.DataFind
import HandS.GenCall
import HandS.GenList
import KE.DataMinMax
import HandS.SortKw
import KE.KExcInit
import HandS.SetFor
import HandS.Style
import KE.GoesZip
import KE.GoesMore
import HandS.Remove
import HandS.SlotsOwn
import KE.GoesEnumKw
import PyProof.Rows.CallKwBuiltin
import PyProof.Rows.ReprR
import OpenK.KMeth
import HandS.SetKeys
import HandS.Defaults
import HandS.Evl
import HandS.NoneIn
import PySem.Challenge.RW_wholeline_k05_whole_lengths
import HandS.WordsDict
set_option Elab.async false
namespace K02
set_option linter.unusedSectionVars false
/-! a book: its slots, and the order of its places; plain mathematics -/
variable {α : Type} [DecidableEq α]
def at1 {β : Type} [DecidableEq β] : List β → β → Nat
  | [], _ => 0
  | y :: ys, x => if y = x then 0 else at1 ys x + 1
theorem at1_mem {β : Type} [DecidableEq β] : ∀ {l : List β} {x : β}, x ∈ l → l[at1 l x]? = some x ∧ ∀ m y, m < at1 l x → l[m]? = some y → y ≠ x
  | [], _, h => nomatch h
  | y :: ys, x, h => by
    unfold at1
    by_cases e : y = x
    · rw [if_pos e, e]
      exact ⟨rfl, fun m _ hm => absurd hm (Nat.not_lt_zero _)⟩
    · rw [if_neg e]
      have hx : x ∈ ys := (List.mem_cons.mp h).resolve_left fun z => e z.symm
      obtain ⟨h1, h2⟩ := at1_mem hx
      refine ⟨h1, fun m z hm hz => ?_⟩
      cases m with
      | zero => cases hz; exact e
      | succ m => exact h2 m z (Nat.lt_of_succ_lt_succ hm) hz
theorem at1_eq {β : Type} [DecidableEq β] {l : List β} {x : β} {j : Nat} (h1 : l[j]? = some x) (h2 : ∀ m y, m < j → l[m]? = some y → y ≠ x) : at1 l x = j := by
  obtain ⟨a1, a2⟩ := at1_mem (List.mem_of_getElem? h1)
  rcases Nat.lt_trichotomy (at1 l x) j with h | h | h
  · exact absurd rfl (h2 _ _ h a1)
  · exact h
  · exact absurd rfl (a2 _ _ h h1)
theorem tk {β : Type} {l : List β} {i : Nat} (h : i < l.length) : l.take (i + 1) = l.take i ++ [l[i]] := by
  rw [List.take_succ, List.getElem?_eq_getElem h]
  rfl
abbrev St (α : Type) := List (Option α) × List Nat
def nextP (s : St α) : Option Nat := if s.2.length < s.1.length then some (at1 s.1 none) else s.2.head?
def place (s : St α) (h : α) : Option Nat := if some h ∈ s.1 then some (at1 s.1 (some h)) else nextP s
def put (s : St α) (h : α) (p : Nat) : St α := (s.1.set p (some h), s.2.filter (fun o => decide (o ≠ p)) ++ [p])
def step (s : St α) (h : α) : St α := match place s h with
  | none => s
  | some p => put s h p
def emp (n : Nat) : St α := (List.replicate n none, [])
def run (n : Nat) (us : List α) : St α := us.foldl step (emp n)
/-- the names that are held, the slots and the order by them -/
structure Ok (n : Nat) (s : St α) (ns : List α) : Prop where
  nd : ns.Nodup
  le : ns.length ≤ n
  sl : s.1 = ns.map some ++ List.replicate (n - ns.length) none
  od : s.2.Perm (List.range ns.length)
section
variable {n : Nat} {s : St α} {ns : List α}
theorem Ok.len (o : Ok n s ns) : s.1.length = n := by
  rw [o.sl, List.length_append, List.length_map, List.length_replicate]
  have := o.le
  omega
theorem Ok.olen (o : Ok n s ns) : s.2.length = ns.length := by rw [o.od.length_eq, List.length_range]
theorem Ok.ond (o : Ok n s ns) : s.2.Nodup := o.od.nodup_iff.mpr List.nodup_range
theorem Ok.omem (o : Ok n s ns) {i : Nat} : i ∈ s.2 ↔ i < ns.length := by rw [o.od.mem_iff, List.mem_range]
theorem Ok.get (o : Ok n s ns) {i : Nat} (h : i < ns.length) : s.1[i]? = some (some ns[i]) := by
  rw [o.sl, List.getElem?_append_left (by rw [List.length_map]; exact h), List.getElem?_map, List.getElem?_eq_getElem h]
  rfl
theorem Ok.blank (o : Ok n s ns) {i : Nat} (h : ns.length ≤ i) (hn : i < n) : s.1[i]? = some none := by
  rw [o.sl, List.getElem?_append_right (by rw [List.length_map]; exact h), List.length_map, List.getElem?_replicate, if_pos (by omega)]
theorem Ok.mem (o : Ok n s ns) {x : α} : some x ∈ s.1 ↔ x ∈ ns := by
  rw [o.sl, List.mem_append]
  simp
theorem Ok.atn (o : Ok n s ns) (h : ns.length < n) : at1 s.1 none = ns.length := by
  refine at1_eq (o.blank (Nat.le_refl _) h) fun m y hm hy => ?_
  rw [o.get hm] at hy
  cases hy
  exact fun z => nomatch z
theorem Ok.ats (o : Ok n s ns) {i : Nat} (h : i < ns.length) : at1 s.1 (some ns[i]) = i := by
  refine at1_eq (o.get h) fun m y hm hy => ?_
  rw [o.get (by omega)] at hy
  cases hy
  intro z
  injection z with z
  have := (List.getElem_inj o.nd).mp z
  omega
theorem Ok.nonemem (o : Ok n s ns) : Option.none ∈ s.1 ↔ ns.length < n := by
  rw [o.sl, List.mem_append]
  constructor
  · rintro (h | h)
    · obtain ⟨_, _, h⟩ := List.mem_map.mp h
      cases h
    · have := (List.mem_replicate.mp h).1
      omega
  · intro h
    exact .inr (List.mem_replicate.mpr ⟨by omega, rfl⟩)
theorem ok_emp : Ok n (emp n : St α) [] := ⟨List.nodup_nil, Nat.zero_le _, by unfold emp; simp, by unfold emp; simp⟩
theorem filter_ne {l : List Nat} (hd : l.Nodup) (p : Nat) : l.filter (fun o => decide (o ≠ p)) = l.erase p := by
  rw [List.Nodup.erase_eq_filter hd]
  refine List.filter_congr fun x _ => ?_
  by_cases h : x = p
  · simp [h]
  · simp [h]
theorem perm_put {l : List Nat} {k p : Nat} (h : l.Perm (List.range k)) (hp : p < k) : (l.filter (fun o => decide (o ≠ p)) ++ [p]).Perm (List.range k) := by
  have hd : l.Nodup := h.nodup_iff.mpr List.nodup_range
  rw [filter_ne hd]
  have hm : p ∈ l := h.mem_iff.mpr (List.mem_range.mpr hp)
  exact (List.perm_append_comm.trans (List.perm_cons_erase hm).symm).trans h
/-- one use more -/
theorem ok_step (o : Ok n s ns) (h : α) : ∃ ns', Ok n (step s h) ns' ∧ (∀ x, x ∈ ns' → x ∈ ns ∨ x = h) := by
  unfold step place
  by_cases hm : some h ∈ s.1
  · rw [if_pos hm]
    have hn := o.mem.mp hm
    obtain ⟨i, hi, he⟩ := List.getElem_of_mem hn
    have ha : at1 s.1 (some h) = i := by rw [← he]; exact o.ats hi
    dsimp only
    rw [ha]
    unfold put
    refine ⟨ns, ⟨o.nd, o.le, ?_, perm_put o.od hi⟩, fun x hx => .inl hx⟩
    have : s.1.set i (some h) = s.1 := by
      refine List.ext_getElem? fun j => ?_
      by_cases hj : j = i
      · subst hj
        rw [List.getElem?_set_self (by rw [o.len]; have := o.le; omega), o.get hi, he]
      · rw [List.getElem?_set_ne (fun z => hj z.symm)]
    show s.1.set i (some h) = _
    rw [this]
    exact o.sl
  · rw [if_neg hm]
    unfold nextP
    rw [o.olen, o.len]
    by_cases hl : ns.length < n
    · rw [if_pos hl, o.atn hl]
      refine ⟨ns ++ [h], ⟨?_, ?_, ?_, ?_⟩, fun x hx => ?_⟩
      · rw [List.nodup_append]
        refine ⟨o.nd, by simp, fun a ha b hb => ?_⟩
        rw [List.mem_singleton.mp hb]
        rintro rfl
        exact hm (o.mem.mpr ha)
      · rw [List.length_append]
        exact hl
      · show s.1.set ns.length (some h) = _
        rw [o.sl, List.set_append_right _ _ (by rw [List.length_map]; exact Nat.le_refl _), List.length_map, Nat.sub_self, List.length_append, List.map_append]
        have : n - ns.length = (n - (ns.length + 1)) + 1 := by omega
        rw [this, List.replicate_succ]
        simp
      · show (s.2.filter (fun o => decide (o ≠ ns.length)) ++ [ns.length]).Perm _
        have : s.2.filter (fun o => decide (o ≠ ns.length)) = s.2 := by
          rw [List.filter_eq_self]
          intro x hx
          have := o.omem.mp hx
          simp
          omega
        rw [this, List.length_append, List.length_singleton, List.range_succ]
        exact o.od.append_right _
      · rcases List.mem_append.mp hx with h' | h'
        · exact .inl h'
        · exact .inr (List.mem_singleton.mp h')
    · rw [if_neg hl]
      have hk : ns.length = n := by have := o.le; omega
      cases hO : s.2 with
      | nil => exact ⟨ns, o, fun x hx => .inl hx⟩
      | cons p O' =>
        have hp : p < ns.length := o.omem.mp (by rw [hO]; exact List.mem_cons_self)
        refine ⟨ns.set p h, ⟨?_, ?_, ?_, ?_⟩, fun x hx => ?_⟩
        · rw [List.nodup_iff_pairwise_ne, List.pairwise_iff_getElem]
          intro i j hi hj hij
          rw [List.length_set] at hi hj
          have nd := List.pairwise_iff_getElem.mp (List.nodup_iff_pairwise_ne.mp o.nd) i j hi hj hij
          have hn : h ∉ ns := fun z => hm (o.mem.mpr z)
          rw [List.getElem_set, List.getElem_set]
          by_cases h1 : p = i
          · rw [if_pos h1, if_neg (by omega)]
            intro z
            exact hn (z ▸ List.getElem_mem hj)
          · rw [if_neg h1]
            by_cases h2 : p = j
            · rw [if_pos h2]
              intro z
              exact hn (z ▸ List.getElem_mem hi)
            · rw [if_neg h2]
              exact nd
        · rw [List.length_set]
          exact o.le
        · show s.1.set p (some h) = _
          rw [o.sl, List.set_append_left _ _ (by rw [List.length_map]; exact hp), List.length_set, List.map_set]
        · rw [List.length_set]
          exact perm_put (by exact hO ▸ o.od) hp
        · rcases List.mem_or_eq_of_mem_set hx with h' | h'
          · exact .inl h'
          · exact .inr h'
end
/-- the law's own use -/
def lstep (s : St α) (h : α) : St α :=
  if some h ∈ s.1 then (s.1.set (at1 s.1 (some h)) (some h), s.2.erase (at1 s.1 (some h)) ++ [at1 s.1 (some h)])
  else if none ∈ s.1 then (s.1.set (at1 s.1 none) (some h), s.2 ++ [at1 s.1 none])
  else match s.2 with
    | p :: O => (s.1.set p (some h), O ++ [p])
    | [] => s
theorem lstep_step {n : Nat} {s : St α} {ns : List α} (o : Ok n s ns) (h : α) : lstep s h = step s h := by
  unfold lstep step place nextP put
  by_cases hm : some h ∈ s.1
  · rw [if_pos hm, if_pos hm]
    dsimp only
    rw [filter_ne o.ond]
  · rw [if_neg hm, if_neg hm, o.olen, o.len]
    by_cases hl : ns.length < n
    · rw [if_pos (o.nonemem.mpr hl), if_pos hl]
      dsimp only
      rw [o.atn hl]
      have : s.2.filter (fun x => decide (x ≠ ns.length)) = s.2 := by
        rw [List.filter_eq_self]
        intro x hx
        have := o.omem.mp hx
        simp
        omega
      rw [this]
    · rw [if_neg (fun z => hl (o.nonemem.mp z)), if_neg hl]
      cases hO : s.2 with
      | nil => rfl
      | cons p O =>
        dsimp only [List.head?]
        have hd := o.ond
        rw [hO] at hd
        rw [filter_ne hd, List.erase_cons_head]
def lnext (s : St α) : Option Nat := if none ∈ s.1 then some (at1 s.1 none) else s.2.head?
theorem lnext_next {n : Nat} {s : St α} {ns : List α} (o : Ok n s ns) : lnext s = nextP s := by
  unfold lnext nextP
  rw [o.olen, o.len]
  by_cases hl : ns.length < n
  · rw [if_pos (o.nonemem.mpr hl), if_pos hl]
  · rw [if_neg (fun z => hl (o.nonemem.mp z)), if_neg hl]
/-! a book is made again of what it holds and of its order -/
theorem run_names {n : Nat} {ns : List α} (nd : ns.Nodup) (le : ns.length ≤ n) : ∀ j, j ≤ ns.length → run n (ns.take j) = ((ns.take j).map some ++ List.replicate (n - j) none, List.range j)
  | 0, _ => by unfold run emp; simp
  | j + 1, hj => by
    have hjl : j < ns.length := hj
    have ih := run_names nd le j (Nat.le_of_lt hjl)
    have ok : Ok n (run n (ns.take j)) (ns.take j) := by
      rw [ih]
      refine ⟨nd.sublist (List.take_sublist _ _), by rw [List.length_take]; omega, ?_, ?_⟩
      · rw [List.length_take, Nat.min_eq_left (Nat.le_of_lt hjl)]
      · rw [List.length_take, Nat.min_eq_left (Nat.le_of_lt hjl)]
    have hlen : (ns.take j).length = j := by rw [List.length_take, Nat.min_eq_left (Nat.le_of_lt hjl)]
    have e : run n (ns.take (j + 1)) = step (run n (ns.take j)) ns[j] := by
      unfold run
      rw [tk hjl, List.foldl_append]
      rfl
    have hnot : ns[j] ∉ ns.take j := fun h => by
      obtain ⟨i, hi, he⟩ := List.getElem_of_mem h
      rw [List.getElem_take] at he
      have := (List.getElem_inj nd).mp he
      rw [hlen] at hi
      omega
    rw [e]
    unfold step place nextP
    rw [if_neg (fun z => hnot (ok.mem.mp z)), ok.olen, ok.len, hlen, if_pos (by omega), ok.atn (by omega), hlen, ih]
    unfold put
    dsimp only
    have h1 : ((ns.take j).map some ++ List.replicate (n - j) none).set j (some ns[j]) = (ns.take (j + 1)).map some ++ List.replicate (n - (j + 1)) none := by
      rw [List.set_append_right _ _ (by rw [List.length_map, hlen]; exact Nat.le_refl _), List.length_map, hlen, Nat.sub_self, tk hjl, List.map_append]
      have : n - j = (n - (j + 1)) + 1 := by omega
      rw [this, List.replicate_succ]
      simp
    have h2 : (List.range j).filter (fun o => decide (o ≠ j)) = List.range j := by
      rw [List.filter_eq_self]
      intro x hx
      have := List.mem_range.mp hx
      simp
      omega
    rw [h1, h2, List.range_succ]
theorem run_order {S : List (Option α)} {n : Nat} {ns : List α} (nd : ns.Nodup) (le : ns.length ≤ n) (hS : S = ns.map some ++ List.replicate (n - ns.length) none) {O : List Nat} (hO : O.Perm (List.range ns.length)) {us : List α} (hl : us.length = O.length) (hu : ∀ j i : Nat, O[j]? = some i → us[j]? = ns[i]?) :
    ∀ j, j ≤ O.length → (us.take j).foldl step (S, List.range ns.length) = (S, (List.range ns.length).filter (fun x => decide (x ∉ O.take j)) ++ O.take j)
  | 0, _ => by
    have : (List.range ns.length).filter (fun x => decide (x ∉ O.take 0)) = List.range ns.length := List.filter_eq_self.mpr fun x _ => by simp
    rw [this]
    simp
  | j + 1, hj => by
    have hjl : j < O.length := hj
    have hju : j < us.length := by omega
    have ih := run_order nd le hS hO hl hu j (Nat.le_of_lt hjl)
    have hd : O.Nodup := hO.nodup_iff.mpr List.nodup_range
    have hi : O[j] < ns.length := List.mem_range.mp (hO.mem_iff.mp (List.getElem_mem hjl))
    have hus : us[j] = ns[O[j]] := by
      have := hu j O[j] (List.getElem?_eq_getElem hjl)
      rw [List.getElem?_eq_getElem hju, List.getElem?_eq_getElem hi] at this
      exact Option.some.inj this
    rw [tk hju, List.foldl_append, ih]
    show step (S, _) us[j] = _
    have ok : Ok n (S, List.range ns.length) ns := ⟨nd, le, hS, List.Perm.refl _⟩
    have hm : some us[j] ∈ S := by rw [hus]; exact ok.mem.mpr (List.getElem_mem hi)
    have ha : at1 S (some us[j]) = O[j] := by rw [hus]; exact ok.ats hi
    have hset : S.set O[j] (some us[j]) = S := by
      refine List.ext_getElem? fun m => ?_
      by_cases hj : m = O[j]
      · rw [hj, List.getElem?_set_self (by have := ok.len; show O[j] < S.length; have h2 : S.length = n := this; omega), hus]
        exact (ok.get hi).symm
      · rw [List.getElem?_set_ne (fun z => hj z.symm)]
    unfold step place
    rw [if_pos hm]
    dsimp only
    rw [ha]
    unfold put
    dsimp only
    rw [hset, List.filter_append, List.filter_filter]
    have hnot : O[j] ∉ O.take j := fun h => by
      obtain ⟨i, hi', he⟩ := List.getElem_of_mem h
      rw [List.getElem_take] at he
      have := (List.getElem_inj hd).mp he
      rw [List.length_take] at hi'
      omega
    have h2 : (O.take j).filter (fun o => decide (o ≠ O[j])) = O.take j := by
      rw [List.filter_eq_self]
      intro x hx
      simp
      rintro rfl
      exact hnot hx
    rw [h2, tk hjl, List.append_assoc]
    have h3 : (List.range ns.length).filter (fun x => decide (x ≠ O[j]) && decide (x ∉ O.take j)) = (List.range ns.length).filter (fun x => decide (x ∉ O.take j ++ [O[j]])) := by
      refine List.filter_congr fun x _ => ?_
      have hx : (x ∉ O.take j ++ [O[j]]) ↔ (x ≠ O[j] ∧ x ∉ O.take j) := by
        rw [List.mem_append, List.mem_singleton, not_or]
        exact and_comm
      rw [decide_eq_decide.mpr hx, Bool.decide_and]
    rw [h3]
theorem rebuilt {n : Nat} {s : St α} {ns : List α} (o : Ok n s ns) {us : List α} (hl : us.length = s.2.length) (hu : ∀ j i : Nat, s.2[j]? = some i → us[j]? = ns[i]?) (h : α) : run n (ns ++ us ++ [h]) = step s h := by
  have e1 := run_names o.nd o.le ns.length (Nat.le_refl _)
  rw [List.take_length] at e1
  have e2 := run_order o.nd o.le o.sl o.od hl hu s.2.length (Nat.le_refl _)
  rw [List.take_of_length_le (by omega : us.length ≤ s.2.length), List.take_length] at e2
  have e3 : (List.range ns.length).filter (fun x => decide (x ∉ s.2)) = [] := by
    rw [List.filter_eq_nil_iff]
    intro x hx
    have := o.omem.mpr (List.mem_range.mp hx)
    simp [this]
  rw [e3, List.nil_append] at e2
  have e4 : run n (ns ++ us ++ [h]) = step ((us.foldl step (run n ns))) h := by
    unfold run
    rw [List.foldl_append, List.foldl_append]
    rfl
  rw [e4, e1, ← o.sl, e2]
/-- what is held, in its slots -/
theorem held_names {n : Nat} {s : St α} {ns : List α} (o : Ok n s ns) : s.1.filterMap id = ns := by
  rw [o.sl, List.filterMap_append]
  have h1 : (ns.map some).filterMap id = ns := by
    rw [List.filterMap_map]
    exact List.filterMap_some
  have h2 : (List.replicate (n - ns.length) (none : Option α)).filterMap id = [] := by
    rw [List.filterMap_eq_nil_iff]
    intro a ha
    rw [(List.mem_replicate.mp ha).2]
    rfl
  rw [h1, h2, List.append_nil]
end K02

set_option Elab.async false
set_option maxRecDepth 100000
set_option maxHeartbeats 4000000
namespace PySem.W
open PySem PySem.Calls PyProof.Rows
section
variable {prog : Program} {w : World} {A : Around} {E : Value → Shared → Prop} {s : Shared} {K : Frag} {x C L f : Addr} {h₀ : Heap} {m : Str → Option Value} {ox : Obj} {od : Option Obj} {b tb : Value}
theorem objNe_K {Q : Fin → Shared → Prop} (hu : A.units < cLine) (X : K.In s.heap) (I : InstAt s.heap x ox C od)
    (hs : findIn K (.ref C) "__eq__" = some (some (.ref f))) (hf : isFn K (.ref f) = true)
    (h : wpAny (model prog w) A (call (.ref f) [.ref x, b]) (fun v s' => ∃ r, v = .bool r ∧ Q (.done (.ret (.bool (!r)))) s') E s) :
    wpAny (model prog w) A (Builtin.«object.__ne__» ⟨[.ref x, b], []⟩) Q E s := by
  obtain ⟨hp, g, d, tk, os⟩ := s
  unfold Builtin.«object.__ne__»
  repeat (first
    | with_reducible refine wpAny_cRoomFor hu ?_
    | (refine wpAny_bind (m := callSpecialIfBound? (.ref x) (Str.ofString "__eq__") [b])
        (ifBound_K X I hs hf (wpAny_mono h (fun r s' hr => by
          obtain ⟨b, rfl, hq⟩ := hr
          repeat (first | exact hq | exact wpAny_pure hq | exact wpAny_truthy_bool hq | (refine wpAny_bind (m := truthy (.bool _)) (wpAny_truthy_bool ?_)) | wp_step)) fun _ _ e => e)))
    | wp_step)
theorem cmpNe_K {Q : Value → Shared → Prop} (hu : A.units + 1 < cLine) (F : Fr h₀ L s.heap m) (X₀ : K.In h₀) (I : InstAt s.heap x ox C od) (hb : Looks (model prog w) s.heap (typeOf b) tb) (hn : notFirst K C tb = true)
    (hne : findIn K (.ref C) "__ne__" = some (some (.builtin "object.__ne__"))) (hm : mroIn K C (.type "object") = some true)
    (hs : findIn K (.ref C) "__eq__" = some (some (.ref f))) (hf : isFn K (.ref f) = true)
    (h : wpAny (model prog w) A.in1 (call (.ref f) [.ref x, b]) (fun v s' => ∃ r, v = .bool r ∧ Q (.bool (!r)) s') E s) : wpAny (model prog w) A (richCompare .NotEq (.ref x) b) Q E s := by
  have X := X₀.keeps F.keep
  have sub : Looks (model prog w) s.heap (isInstance (.ref x) (.type "object")) true := I.type.andThen (looks_mroIn X hm)
  have one : wpAny (model prog w) A (tryCompare (.ref x) "__ne__" b) (fun r s' => ∃ v, r = some v ∧ Q v s') E s := by
    unfold tryCompare
    refine wpAny_bind ?_
    simp only [callSpecialIfBound?, bindSpecialIfBound?]
    refine wpAny_holding (wpAny_bind (wpAny_bind (wpAny_bind (I.type.here ((looks_findIn X hne).here ?_)))))
    simp only [PySem.F.cmp_object.ne.bind]
    refine wpAny_bind (wpAny_askSetting (wpAny_ite ?_))
    have fin : wpAny (model prog w) A (call (.builtin "object.__ne__") ([.ref x] ++ [b]) >>= fun v => pure (some v)) (fun r s' => wpAny (model prog w) A (match r with
        | some .notImplemented | none => pure none
        | some v => pure (some v)) (fun r s' => ∃ v, r = some v ∧ Q v s') E s') E s := by
      refine wpAny_bind (wpAny_call (codeAny_call_builtin PySem.F.cmp_object.ne.plain PySem.F.cmpEntry_ne (check_slot PySem.F.cmpKind_ne PySem.F.cmpSplit_ne sub (PySem.F.cmpArgs_ne _ _)
        (objNe_K (A := A.in1) hu X I hs hf (wpAny_mono h (fun v s' hv => ?_) fun _ _ e => e)))))
      obtain ⟨r, rfl, hq⟩ := hv
      first | exact ⟨r, rfl, wpAny_pure (wpAny_pure ⟨_, rfl, hq⟩)⟩ | exact ⟨r, rfl, wpAny_pure ⟨_, rfl, hq⟩⟩
    split
    · repeat (first | exact fin | with_reducible refine wpAny_pure ?_ | with_reducible refine wpAny_bind ?_ | with_reducible refine wpAny_tryCatch ?_)
    · refine wpAny_tryCatch ?_
      repeat (first | exact fin | with_reducible refine wpAny_pure ?_ | with_reducible refine wpAny_bind ?_)
  unfold richCompare
  simp only [oneThing_ref]
  refine wpAny_holding (wpAny_bind (wpAny_cRoomFor (Nat.lt_of_succ_lt hu) ?_))
  refine wpAny_bind (I.type.here (wpAny_bind (hb.here ?_)))
  split
  · rename_i q
    have e : subIn K tb (.ref C) = some false := by
      rcases Bool.or_eq_true_iff.mp hn with e | e
      · rw [beq_iff_eq.mp e] at q; simp at q
      · exact beq_iff_eq.mp e
    refine wpAny_bind ((looks_subIn X e).here ?_)
    simp only [Bool.false_eq_true, if_false]
    refine wpAny_bind (wpAny_mono one (fun r s' z => ?_) fun _ _ e => e)
    obtain ⟨v, rfl, hq⟩ := z
    exact wpAny_pure hq
  · refine wpAny_bind (wpAny_pure ?_)
    simp only [Bool.false_eq_true, if_false]
    refine wpAny_bind (wpAny_mono one (fun r s' z => ?_) fun _ _ e => e)
    obtain ⟨v, rfl, hq⟩ := z
    exact wpAny_pure hq
end
end PySem.W

set_option Elab.async false
set_option maxRecDepth 100000
set_option maxHeartbeats 4000000
namespace L2
open PySem PySem.Spec PyProof.Rows
section
variable {X : Cx} {CX : CXT} {k : Nat} {f C : Addr} {fd : FuncData} {ps : List Str} {sp : Sp}
/-- the own method f, called at some frame below with room -/
theorem run_at {A : Around} {pins : List (Addr × Obj)} {σ : St} {H : Hp} {s : Shared} {Q : VK} {us : List Value} {vs : List V} (F : FnOk X.prog X.w X.K X.mg X.base CX k f fd ps sp) (hr : Room k A) (hA : A.frames = X.A.frames) (hb : Binds X.K fd ps []) (hx : Passes CX X E0)
    (I : Inv X pins σ H s) (r : Vals vs us) (h : sp vs H Q E0) : wpAny (model X.prog X.w) A (call (.ref f) us) (EP X pins σ Q) X.xe s := by
  have hl : us.length = ps.length := by rw [← r.length]; exact F.len _ _ _ _ h
  have e0 : Env0 X.prog X.w X.K X.mg X.base A X.stack s H := by
    have e := I.env0
    exact ⟨by rw [hA]; exact e.frames, e.mod, e.bs, e.bsz, e.funs, e.frf, e.hok, e.bare⟩
  refine wpAny_call (codeAny_mono (F.run A X.stack s H ⟨us, []⟩ us vs Q E0 hr e0 (by
    have := hb s us I.kIn (by simpa using hl)
    simpa using this) r h) fun r s' hq => ?_)
  cases r with
  | error e => exact hx pins σ H s e s' I hq
  | ok fl =>
    cases fl with
    | ret u => exact I.after hq
    | next => exact False.elim hq
    | brk => exact False.elim hq
    | cont => exact False.elim hq
/-- x == y, x an instance of the class at C, by its own ==; y anything whose type is known -/
def rEqO (K : PySem.W.Frag) (C : Addr) (sp : Sp) : R2 := fun x y H Q => ∃ a dx fs t, x = .ref a ∧ H a = some (.ins C dx fs) ∧ TyX K H y t ∧ PySem.W.notFirst K C t = true ∧ sp [x, y] H (fun v H' => ∃ b, v = .bl b ∧ Q (.bl b) H') E0
def rNeO (K : PySem.W.Frag) (C : Addr) (sp : Sp) : R2 := fun x y H Q => ∃ a dx fs t, x = .ref a ∧ H a = some (.ins C dx fs) ∧ TyX K H y t ∧ PySem.W.notFirst K C t = true ∧ sp [x, y] H (fun v H' => ∃ b, v = .bl b ∧ Q (.bl (!b)) H') E0
structure EqM (K : PySem.W.Frag) (C f : Addr) : Prop where
  eq : PySem.W.findIn K (.ref C) "__eq__" = some (some (.ref f))
  fn : PySem.W.isFn K (.ref f) = true
  ne : PySem.W.findIn K (.ref C) "__ne__" = some (some (.builtin "object.__ne__"))
  ob : PySem.W.mroIn K C (.type "object") = some true
theorem op_eqO (F : FnOk X.prog X.w X.K X.mg X.base CX k f fd ps sp) (M : EqM X.K C f) (hr : Room k X.A) (hb : Binds X.K fd ps []) (hx : Passes CX X E0) : OpR X (compareOp .Eq) (rEqO X.K C sp) := by
  intro pins s σ H x y v u Q I rx ry hq
  obtain ⟨a, dx, fs, t, rfl, ha, ty, hn, q⟩ := hq
  cases (show v = Value.ref a from rx)
  obtain ⟨P, Z, p, _⟩ := kit_of I ry ty
  obtain ⟨mA, J, _⟩ := ins_get I.hok ha
  obtain ⟨od, J, _⟩ := J.look
  obtain ⟨m, hF⟩ := I.fr
  show wpAny (model X.prog X.w) X.A (richCompare .Eq (.ref a) u) (EP X pins σ Q) X.xe s
  refine PySem.W.cmp_K (op := .Eq) (tb := t) hr.units0 hF I.ok.mod.kin J (Z.ty _ _ I.kIn p) hn M.eq M.fn ?_
  refine wpAny_mono (run_at (vs := [.ref a, y]) F hr rfl hb hx I (.cons rfl (.cons ry .nil)) q) (fun v' s' z => ?_) fun _ _ e => e
  obtain ⟨w', H', I', rv, b, rfl, q'⟩ := z
  cases rv
  exact ⟨.bl b, H', I', rfl, q'⟩
theorem op_neO (F : FnOk X.prog X.w X.K X.mg X.base CX k f fd ps sp) (M : EqM X.K C f) (hr : Room (k + 1) X.A) (hb : Binds X.K fd ps []) (hx : Passes CX X E0) : OpR X (compareOp .NotEq) (rNeO X.K C sp) := by
  intro pins s σ H x y v u Q I rx ry hq
  obtain ⟨a, dx, fs, t, rfl, ha, ty, hn, q⟩ := hq
  cases (show v = Value.ref a from rx)
  obtain ⟨P, Z, p, _⟩ := kit_of I ry ty
  obtain ⟨mA, J, _⟩ := ins_get I.hok ha
  obtain ⟨od, J, _⟩ := J.look
  obtain ⟨m, hF⟩ := I.fr
  show wpAny (model X.prog X.w) X.A (richCompare .NotEq (.ref a) u) (EP X pins σ Q) X.xe s
  refine PySem.W.cmpNe_K (tb := t) (by have := hr.units; omega) hF I.ok.mod.kin J (Z.ty _ _ I.kIn p) hn M.ne M.ob M.eq M.fn ?_
  refine wpAny_mono (run_at (vs := [.ref a, y]) F hr.in1 rfl hb hx I (.cons rfl (.cons ry .nil)) q) (fun v' s' z => ?_) fun _ _ e => e
  obtain ⟨w', H', I', rv, b, rfl, q'⟩ := z
  cases rv
  exact ⟨b, rfl, .bl (!b), H', I', rfl, q'⟩
/-- len(o), o an instance of the class at C with an own __len__ -/
def rLenO (C : Addr) (sp : Sp) : List V → Hp → VK → Prop := fun xs H Q => ∃ a dx fs, xs = [.ref a] ∧ H a = some (.ins C dx fs) ∧ sp [.ref a] H (fun v H' => ∃ n : Int, v = .int n ∧ (0 ≤ n ∧ n < 2 ^ 63) ∧ Q (.int n) H') E0
theorem call_lenO (F : FnOk X.prog X.w X.K X.mg X.base CX k f fd ps sp) (hs : PySem.W.findIn X.K (.ref C) "__len__" = some (some (.ref f))) (hf : PySem.W.isFn X.K (.ref f) = true) (hr : Room (k + 1) X.A) (hb : Binds X.K fd ps []) (hx : Passes CX X E0) :
    CallR X (.builtin "len") (rLenO C sp) := by
  intro pins s σ H xs us Q I r h
  obtain ⟨a, dx, fs, rfl, ha, q⟩ := h
  cases r with
  | cons rx rr =>
    rename_i u us'
    cases rr
    cases (show u = Value.ref a from rx)
    obtain ⟨mA, J, _⟩ := ins_get I.hok ha
    obtain ⟨od, J, _⟩ := J.look
    obtain ⟨m, hF⟩ := I.fr
    refine PySem.W.len_K hF I.ok.mod.kin J hs hf ?_
    refine wpAny_mono (run_at (vs := [.ref a]) F hr.in1 rfl hb hx I (.cons rfl .nil) q) (fun v' s' z => ?_) fun _ _ e => e
    obtain ⟨w', H', I', rv, n, rfl, hn, q'⟩ := z
    obtain ⟨t, rfl⟩ := (show ∃ t, v' = Value.int n t from rv)
    exact ⟨hn, .int n, H', I'.tok _, ⟨_, rfl⟩, q'⟩
end
end L2

set_option Elab.async false
set_option maxRecDepth 100000
set_option maxHeartbeats 4000000
namespace PySem.W
open PySem PySem.Spec PySem.Calls PyProof.Rows
section
variable {K : Frag} {C : Addr}
theorem findObj_dat {od : Option Obj} {name : Str} {a g : Value} (hc : (clsIn K C).isSome = true) (ha : findIn K (.ref C) name = some (some a)) (hg : specialIn K a "__get__" = some (some g)) (ht : takesIn K a = some true) :
    findObj K C od name = some (.bind g a) := by
  obtain ⟨cd, hc⟩ := Option.isSome_iff_exists.mp hc
  simp [findObj, hc, ha, hg, ht]
variable {prog : Program} {w : World} {A : Around} {E : Value → Shared → Prop} {s : Shared} {x D : Addr} {ox : Obj}
theorem kin_classD {od : Option Obj} {Q : Option Value → Shared → Prop} (T : L2.ExcC K D)
    (X : K.In s.heap) (I : InstAt s.heap x ox D od) (h : Q (some (.ref D)) { s with toks := s.toks + 1 }) : wpAny (model prog w) A (getAttr? (.ref x) "__class__") Q E s := by
  have hf : findObj K D od "__class__" = some (.bind (.builtin "getset_descriptor.__get__") (.builtin "object.__class__")) :=
    findObj_dat (by obtain ⟨cd, hc, _⟩ := any_some T.hd; rw [hc]; rfl) T.ha T.hn T.ht
  obtain ⟨hp, g, d, t, os⟩ := s
  have L0 := I.type (M := model prog w)
  have L1 := looks_findIn (M := model prog w) X T.hg
  have L2 := looks_findIn (M := model prog w) X T.hk
  have L3 := looks_find (M := model prog w) X I hf
  have sub : Looks (model prog w) hp (isInstance (.ref x) (.type "BaseException")) true := L0.andThen (looks_subIn X T.hs)
  have hx0 : (false && onTheHeap (Value.builtin "BaseException.__getattribute__")) = false := rfl
  have hx2 : (Value.builtin "BaseException.__getattribute__" == Value.builtin "object.__getattribute__") = false := by decide +kernel
  have hx1 : (onTheHeap (Value.ref D) && Value.builtin "BaseException.__getattribute__" == Value.builtin "object.__getattribute__") = false := by rw [hx2]; rfl
  unfold getAttr? getAttrBy? getAttrBy
  refine wpAny_bind (wpAny_mkText (wpAny_bind (wpAny_attempt (wpAny_holding (wpAny_bind (L0.at (wpAny_bind (L1.at ?_))))))))
  show wpAny _ _ (if (onTheHeap (Value.ref D) && Value.builtin "BaseException.__getattribute__" == Value.builtin "object.__getattribute__") = true then _ else _) _ _ _
  rw [hx1, if_neg Bool.false_ne_true]
  unfold getAttrByItsOwn hookBefore
  refine wpAny_bind ?_
  rw [if_pos (show onTheHeap (Value.ref D) = true from rfl)]
  refine L2.at ?_
  refine wpAny_bind (wpAny_attempt (wpAny_holding ?_))
  unfold callGetattribute
  rw [hx0, if_neg Bool.false_ne_true]
  unfold boundAndCalled
  rw [PySem.F.excAttr_ValueError.ga.bind (.ref x)]
  refine wpAny_bind (wpAny_pure ?_)
  show wpAny _ _ (call (.builtin "BaseException.__getattribute__") [.ref x, .str "__class__" t]) _ _ _
  refine wpAny_call (codeAny_call_builtin PySem.F.excAttr_ValueError.ga.plain PySem.F.entry_bexc_ga ?_)
  refine @check_slot (model prog w) _ _ ⟨hp, g, d, t + 1, os⟩ "BaseException.__getattribute__" "BaseException" "__getattribute__" (.ref x) [.str "__class__" t] [] _ (by decide +kernel) (by decide +kernel) sub (PySem.F.args_bexc_ga (.ref x) (.str "__class__" t)) ?_
  unfold Builtin.«object.__getattribute__»
  refine wpAny_bind (wpAny_of_eq (a := ((Value.ref x : Value), [Value.str "__class__" t])) (by first | rfl | (simp only [slotArgs]; rfl)) ?_)
  refine wpAny_bind (wpAny_pure (wpAny_bind (L0.at (wpAny_bind (L3.at ?_)))))
  show wpAny _ _ (holding [Value.builtin "object.__class__"] (call (.builtin "getset_descriptor.__get__") [.builtin "object.__class__", .ref x, .ref D]) >>= ret) _ _ _
  refine wpAny_bind (wpAny_holding (wpAny_call (class_get (s := ⟨hp, g, d, t + 1, os⟩) (ox := ox) (od := od) X I T.hm ?_)))
  refine wpAny_pure ?_
  show wpAny _ _ (handedOut (.ref D)) _ _ _
  rw [handedOut_of (v := .ref D) rfl]
  first
    | exact wpAny_pure (wpAny_pure h)
    | exact wpAny_pure h
    | exact wpAny_pure (wpAny_bind (wpAny_pure (wpAny_pure h)))
theorem kitx_excD (T : L2.ExcC K D) : KitX K (.ref x) (.ref D) (fun h => ∃ od, InstAt h x ox D od) where
  ty := fun _ _ _ I => by
    obtain ⟨_, I⟩ := I
    exact I.type
  it := fun M h X _ => by
    obtain ⟨cdD, hcD, _⟩ := any_some T.hd
    unfold clsIn at hcD
    split at hcD
    · rename_i c' d' cd' sl' ho
      intro A' Q' E' s' k q
      unfold isType loadHead
      exact wpAny_bind (wpAny_loadPart (k _ _ (X _ _ ho)) (wpAny_pure q))
    · cases hcD
  ne := fun h tp dd its n sl X htp => by
    obtain ⟨cdD, hcD, _⟩ := any_some T.hd
    refine Bool.eq_false_iff.mpr fun q => ?_
    have e : D = tp := Value.ref.inj (beq_iff_eq.mp q)
    subst e
    unfold clsIn at hcD
    split at hcD
    · rename_i c' d' cd' sl' ho
      have z := (X _ _ ho).symm.trans htp
      cases z
    · cases hcD
  ca := fun X I k => by
    obtain ⟨_, I⟩ := I
    exact kin_classD T X I k
end
end PySem.W
namespace L2
open PySem PySem.Spec PyProof.Rows
section
variable {X : Cx}
/-- isinstance(e, c), e the exception that the suite holds, with a dict or without -/
theorem call_isED {a D : Addr} {d : Option Addr} {oe : Obj} {pn : List (Addr × Obj)} (C : ExcC X.K D) (hz : Zc (.ref D) d oe) (hf : ∃ vs, oe.data = .fields vs) (hd : ∀ (pins : List (Addr × Obj)) (σ : St) (H : Hp) (s : Shared), Inv (X.suite a ((a, oe) :: pn)) pins σ H s → ∀ dd, d = some dd → ∃ od, s.heap.get? dd = some od) :
    CallR (X.suite a ((a, oe) :: pn)) (.builtin "isinstance") (rIsE X.K D a) := by
  intro pins s σ H xs us Q I r h
  obtain ⟨c, cv, b, rfl, hcv, e, q⟩ := h
  cases r with
  | cons rx rr =>
    cases rr with
    | cons rt rr =>
      cases rr
      cases rx
      have ec := hcv _ rt
      subst ec
      obtain ⟨hget, _⟩ := I.pin (a, oe) (List.mem_append.mpr (.inl List.mem_cons_self))
      obtain ⟨vs, hv⟩ := hf
      have J : ∃ od, PySem.W.InstAt s.heap a oe D od := by
        have hd' := hd pins σ H s I
        obtain ⟨oc, od, oda, osl⟩ := oe
        obtain ⟨h1, h2⟩ := hz
        dsimp only at h1 h2 hv
        subst h1 h2 hv
        cases od with
        | none => exact ⟨none, hget, rfl, rfl, trivial⟩
        | some dd =>
          obtain ⟨o, ho⟩ := hd' dd rfl
          exact ⟨some o, hget, rfl, rfl, ho⟩
      exact PySem.W.kia_one (PySem.W.kitx_excD C) I.kIn J e (fun z => nomatch z) fun tk => ⟨.bl b, H, I.kept (t' := tk) fun _ _ z => z, rfl, q⟩
/-- the same where the dict is tracked: the reading asks it -/
def rIsED (K : PySem.W.Frag) (D a : Addr) (cls : Value) (d : Option Addr) : List V → Hp → VK → Prop := fun xs H Q => cls = .ref D ∧ (∀ dd, d = some dd → ∃ fs, H dd = some (.xd fs)) ∧ ∃ (c : V) (cv : Value) (b : Bool), xs = [.ref a, c] ∧ (∀ u, RelV c u → u = cv) ∧ PySem.W.kitOne K (.ref D) cv = some b ∧ Q (.bl b) H
theorem call_isEX {a D : Addr} {cls : Value} {d : Option Addr} {oe : Obj} {pn : List (Addr × Obj)} (C : ExcC X.K D) (hz : Zc cls d oe) (hf : ∃ vs, oe.data = .fields vs) : CallR (X.suite a ((a, oe) :: pn)) (.builtin "isinstance") (rIsED X.K D a cls d) := by
  intro pins s σ H xs us Q I r h
  obtain ⟨ec0, hdd, c, cv, b, rfl, hcv, e, q⟩ := h
  subst ec0
  cases r with
  | cons rx rr =>
    cases rr with
    | cons rt rr =>
      cases rr
      cases rx
      have ec := hcv _ rt
      subst ec
      obtain ⟨hget, _⟩ := I.pin (a, oe) (List.mem_append.mpr (.inl List.mem_cons_self))
      obtain ⟨vs, hv⟩ := hf
      have J : ∃ od, PySem.W.InstAt s.heap a oe D od := by
        obtain ⟨oc, od, oda, osl⟩ := oe
        obtain ⟨h1, h2⟩ := hz
        dsimp only at h1 h2 hv
        subst h1 h2 hv
        cases od with
        | none => exact ⟨none, hget, rfl, rfl, trivial⟩
        | some dd =>
          obtain ⟨fs, hfs⟩ := hdd dd rfl
          obtain ⟨mA, hns, _⟩ := (show ObjOk X.prog X.w H s.heap dd (.xd fs) from I.hok dd _ hfs)
          obtain ⟨od, ho, _⟩ := lookIn_ns hns
          exact ⟨some od, hget, rfl, rfl, ho⟩
      exact PySem.W.kia_one (PySem.W.kitx_excD C) I.kIn J e (fun z => nomatch z) fun tk => ⟨.bl b, H, I.kept (t' := tk) fun _ _ z => z, rfl, q⟩
end
section
variable {X : Cx} {CX : CXT} {k : Nat} {f C : Addr} {fd : FuncData} {ps : List Str} {sp : Sp} {dvs : List V} {ds : List Value} {E : St → XK} {x m : Str} {p pos apos : Pos} {e o : Expr} {es : List Expr} {ta : TE} {t : TA}
/-- C(e, ..) where what is raised is wished for at the slots as they stand -/
def tMakeS (C : Addr) (sp : Sp) (dvs : List V) (E : St → XK) (t : TA) : TE := fun σ H Q => t σ H fun vs H1 => ∀ x dx, H1 x = none → H1 dx = none → dx ≠ x →
  sp (.ref x :: (vs ++ dvs)) (upd (upd H1 dx (.own x)) x (.ins C dx [])) (fun v H2 => v = .non ∧ Q (.ref x) H2) (fun cls d H2 => E σ cls d H2)
theorem run_makeS {pins : List (Addr × Obj)} {σ : St} {H : Hp} {s : Shared} {Q : VK} {us : List Value} {vs : List V} (M : Mk X.K C f) (F : FnOk X.prog X.w X.K X.mg X.base CX k f fd ps sp) (hr : Room (k + 1) X.A) (hb : Binds X.K fd ps ds) (hd : Vals dvs ds)
    (hx : PassesAt CX X σ (E σ)) (I : Inv X pins σ H s) (r : Vals vs us)
    (h : ∀ x dx, H x = none → H dx = none → dx ≠ x → sp (.ref x :: (vs ++ dvs)) (upd (upd H dx (.own x)) x (.ins C dx [])) (fun v H2 => v = .non ∧ Q (.ref x) H2) (E σ)) :
    wpAny (model X.prog X.w) X.A (call (.ref C) us) (EP X pins σ Q) X.xe s := by
  have hq := h (s.heap.objs.size + 1) s.heap.objs.size (I.hok.fresh (Nat.le_succ _)) (I.hok.fresh (Nat.le_refl _)) (Nat.ne_of_lt (Nat.lt_succ_self _))
  have I2 := Inv.made (C := C) I
  have r2 : Vals (V.ref (s.heap.objs.size + 1) :: (vs ++ dvs)) (Value.ref (s.heap.objs.size + 1) :: (us ++ ds)) := .cons rfl (r.append hd)
  have hl : (Value.ref (s.heap.objs.size + 1) :: us ++ ds).length = ps.length := by
    have e := r2.length
    rw [F.len _ _ _ _ hq] at e
    exact e.symm
  refine wpAny_call (make_map (f := f) I.kIn M.makes M.init (beq_iff_eq.mp M.fn) (codeAny_mono (F.run _ X.stack _ _ ⟨Value.ref (s.heap.objs.size + 1) :: us, []⟩ (Value.ref (s.heap.objs.size + 1) :: (us ++ ds)) _ _ (E σ) (hr.make C us [])
    (I2.env0.make C us []) (hb _ (Value.ref (s.heap.objs.size + 1) :: us) I2.kIn hl) r2 hq) fun r s' hq' => ?_))
  cases r with
  | error e => exact hx pins _ _ e s' I2 hq'
  | ok fl =>
    cases fl with
    | ret u =>
      obtain ⟨v, H', I3, rv, ev, q3⟩ := I2.after hq'
      subst ev
      exact ⟨rv, ⟨V.ref (s.heap.objs.size + 1), H', I3, rfl, q3⟩⟩
    | next => exact False.elim hq'
    | brk => exact False.elim hq'
    | cont => exact False.elim hq'
theorem pe_makeS (M : Mk X.K C f) (F : FnOk X.prog X.w X.K X.mg X.base CX k f fd ps sp) (hr : Room (k + 1) X.A) (hg : Gl X x) (hm : X.mg x = some (.ref C)) (hb : Binds X.K fd ps ds) (hd : Vals dvs ds) (hx : ∀ σ, PassesAt CX X σ (E σ))
    (ha : PA X (e :: es) t) (hdb : (x == ("__debug__" : Str)) = false := by decide) (he : starEach (e :: es) X.env = (false, eval e X.env) :: starEach es X.env := by rfl) (hpl : (backTo pos (starEach es X.env)).any (·.1) = false := by rfl) :
    PE X (.Call (.Name x p) (e :: es) [] pos) (tMakeS C sp dvs E t) := by
  refine ⟨fun pins s σ H Q I h => ?_⟩
  refine wpAny_Call_Name_kw (ld_glob I hg hm ?_ hdb)
  refine PySem.W.callWith_K (h₀ := X.base) I.ok.mod.kin M.kp (thn (ha.run pos pins s σ H _ I h) fun us s1 ⟨vs, H1, I1, r, q⟩ => ⟨I1.kIn, ?_⟩) he hpl
  exact run_makeS M F hr hb hd (hx σ) I1 r q
/-- o.m(e, ..) | o.m() likewise -/
def tMethSD (C : Addr) (m : Str) (sp : Sp) (dvs : List V) (E : St → XK) (ta : TE) (t : TA) : TE := fun σ H Q => ta σ H fun x H1 => ∃ a dx fs, x = .ref a ∧ H1 a = some (.ins C dx fs) ∧ fs.lookup m = none ∧
  t σ H1 fun vs H2 => sp (x :: (vs ++ dvs)) H2 Q (E σ)
theorem pe_methSD {pl : Sem Bool} (he : PE X o ta) (c : Cls X.K C) (hm : Meth X.K C m f) (F : FnOk X.prog X.w X.K X.mg X.base CX k f fd ps sp) (hr : Room k X.A) (hb : Binds X.K fd ps ds) (hd : Vals dvs ds) (hx : ∀ σ, PassesAt CX X σ (E σ)) (ha : PA X (e :: es) t)
    (hst : starEach (e :: es) X.env = (false, eval e X.env) :: starEach es X.env := by rfl) (hpl : (backTo pos (starEach es X.env)).any (·.1) = false := by rfl)
    (ht : eval (.Call (.Attribute o m apos) (e :: es) [] pos) X.env = (do
      let ov ← eval o X.env
      standAt apos.atName
      let (f, first) ← holding [ov] (getMethod ov m pl)
      callWith pos f first (backTo pos (starEach (e :: es) X.env)) (backToKw pos (keywordEach [] X.env))) := by rfl) :
    PE X (.Call (.Attribute o m apos) (e :: es) [] pos) (tMethSD C m sp dvs E ta t) := by
  refine ⟨fun pins s σ H Q I h => ?_⟩
  refine PySem.W.methodCall_KW (pl := pl) (thn (he.run pins s σ H _ I h) fun u s1 ⟨x, H1, I1, rx, a, dx, fs, ex, ea, l, q⟩ => ?_) ht
  subst ex
  obtain rfl : u = Value.ref a := rx
  refine getmeth_ok I1 ea c hm l ?_
  refine PySem.W.callWith_K (first := [.ref a]) (h₀ := X.base) I.ok.mod.kin hm.kp (thn (ha.run pos pins s1 σ H1 _ I1 q) fun us s2 ⟨vs, H2, I2, r, q2⟩ => ⟨I2.kIn, ?_⟩) hst hpl
  exact run_fnSD (us := .ref a :: us) (vs := .ref a :: vs) F hr hb hd (hx σ) I2 (.cons rfl r) q2
theorem pe_methSD0 {pl : Sem Bool} (he : PE X o ta) (c : Cls X.K C) (hm : Meth X.K C m f) (F : FnOk X.prog X.w X.K X.mg X.base CX k f fd ps sp) (hr : Room k X.A) (hb : Binds X.K fd ps ds) (hd : Vals dvs ds) (hx : ∀ σ, PassesAt CX X σ (E σ))
    (ht : eval (.Call (.Attribute o m apos) [] [] pos) X.env = (do
      let ov ← eval o X.env
      standAt apos.atName
      let (f, first) ← holding [ov] (getMethod ov m pl)
      callWith pos f first (backTo pos (starEach [] X.env)) (backToKw pos (keywordEach [] X.env))) := by rfl) :
    PE X (.Call (.Attribute o m apos) [] [] pos) (tMethSD C m sp dvs E ta tNil) := by
  refine ⟨fun pins s σ H Q I h => ?_⟩
  refine PySem.W.methodCall_KW (pl := pl) (thn (he.run pins s σ H _ I h) fun u s1 ⟨x, H1, I1, rx, a, dx, fs, ex, ea, l, q⟩ => ?_) ht
  subst ex
  obtain rfl : u = Value.ref a := rx
  refine getmeth_ok I1 ea c hm l ?_
  exact PySem.W.callWith_K0 (first := [.ref a]) I1.kIn hm.kp (run_fnSD (us := [.ref a]) (vs := [.ref a]) F hr hb hd (hx σ) I1 (.cons rfl .nil) q)
end

/-! ### own errors with one field -/
/-- what __init__ of such an error does: self.f = v -/
def spXI (C : Addr) (f : Str) : Sp := fun vs H Q _ => ∃ (a : Addr) (y : V), vs = [.ref a, y] ∧ H a = some (exo a C none) ∧ ∀ dx, H dx = none → dx ≠ a → Q .non (upd (upd H dx (exd dx [(f, y)])) a (exo a C (some dx)))
/-- all that is asked of the class x of errors at C, whose field is f -/
structure XCls (P : Program) (w : World) (K : PySem.W.Frag) (mg : Str → Option Value) (base : Heap) (x f : Str) (C : Addr) : Prop where
  ox : OexC K C
  gC : mg x = some (.ref C)
  noA : PySem.W.findIn K (.ref C) f = some none
  ec : ExcC K C
  ini : ∃ (fI : Addr) (fd : FuncData), PySem.W.findIn K (.ref C) "__init__" = some (some (.ref fI)) ∧ PySem.W.typeIn K (.ref fI) = some (.type "function") ∧ FnOk P w K mg base CX0 1 fI fd ["self", f] (spXI C f) ∧ Binds K fd ["self", f] []
theorem XCls.xf {P : Program} {w : World} {K : PySem.W.Frag} {mg : Str → Option Value} {base : Heap} {x f : Str} {C : Addr} (T : XCls P w K mg base x f C) : XfC K C := ⟨T.ec.hg, T.ec.hk, T.ec.hs, T.ec.hd⟩
section
variable {X : Cx} {C : Addr} {x f : Str} {e : Expr} {te : TE} {p pos pos2 : Pos}
theorem pmk_X (T : XCls X.prog X.w X.K X.mg X.base x f C) (hr : Room 2 X.A) (he : PE X e te) (hg : Gl X x) (hdb : (x == ("__debug__" : Str)) = false := by decide)
    (hs : starEach [e] X.env = (false, eval e X.env) :: starEach [] X.env := by rfl) (hpl : (backTo pos (starEach [] X.env)).any (·.1) = false := by rfl) :
    PMk X (.Call (.Name x p) [e] [] pos) (tMkO C (spXI C f) [] (tCons te tNil)) := by
  obtain ⟨fI, fd, i1, i2, F, b⟩ := T.ini
  exact pmk_oex (dvs := []) (ds := []) T.ox i1 i2 F hr b .nil pass0 hg T.gC (pa_cons he pa_nil hs) hdb hs hpl
/-- what is left to be shown behind the argument y -/
theorem mkX_fin {H1 : Hp} {y : V} {Q : XK} (h : ∀ d, H1 d = none → Q (.ref C) (some d) (upd H1 d (.xd [(f, y)]))) :
    [y].length ≤ 1000 ∧ ∀ a, H1 a = none → spXI C f (.ref a :: ([y] ++ [])) (upd H1 a (exo a C none))
      (fun v H2 => v = .non ∧ ∃ (d : Addr) (fs : List (Str × V)), H2 a = some (exo a C (some d)) ∧ H2 d = some (exd d fs) ∧ H1 d = none ∧ Q (.ref C) (some d) (upd (del H2 a) d (.xd fs))) (fun _ _ _ => False) := by
  refine ⟨by show 1 ≤ 1000; decide, fun a ha => ⟨a, y, rfl, upd_same, fun dx hdx hne => ⟨rfl, dx, [(f, y)], upd_same, ?_, ?_, ?_⟩⟩⟩
  · rw [upd_ne hne, upd_same]
  · rw [upd_ne hne] at hdx
    exact hdx
  · have hdx' : H1 dx = none := by
      rw [upd_ne hne] at hdx
      exact hdx
    have e : upd (del (upd (upd (upd H1 a (exo a C none)) dx (exd dx [(f, y)])) a (exo a C (some dx))) a) dx (.xd [(f, y)]) = upd H1 dx (.xd [(f, y)]) := by
      funext b
      by_cases hb : b = dx
      · rw [hb, upd_same, upd_same]
      · rw [upd_ne hb, upd_ne hb]
        by_cases hba : b = a
        · rw [hba, del_same, ha]
        · rw [del_ne hba, upd_ne hba, upd_ne hb, upd_ne hba]
    rw [e]
    exact h dx hdx'
end
end L2

set_option Elab.async false
set_option maxRecDepth 100000
set_option maxHeartbeats 4000000
namespace L2
open PySem PySem.Spec PyProof.Rows
section
variable (P : Program) (w : World) (K : PySem.W.Frag) (mg : Str → Option Value) (base : Heap)
/-- a def of the top, as the text has it -/
structure DefAt (x : Str) (st : Stmt) (ps : List Str) : Prop where
  ex : ∃ (f : Addr) (fd : FuncData), Fun K x x st f fd ∧ mg x = some (.ref f) ∧ Binds K fd ps []
/-- a def of the top that keeps its promise -/
structure Own (CX : CXT) (x : Str) (k : Nat) (ps : List Str) (sp : Sp) : Prop where
  ex : ∃ (f : Addr) (fd : FuncData), FnOk P w K mg base CX k f fd ps sp ∧ mg x = some (.ref f) ∧ PySem.W.keepIn K (.ref f) = true ∧ Binds K fd ps []
/-- a method of the class at C, as the text has it; one that keeps its promise -/
structure MethAt (C : Addr) (m qual : Str) (st : Stmt) (ps : List Str) : Prop where
  ex : ∃ (f : Addr) (fd : FuncData), Fun K m qual st f fd ∧ PySem.W.findIn K (.ref C) m = some (some (.ref f)) ∧ PySem.W.isFn K (.ref f) = true ∧ Binds K fd ps []
structure OwnM (CX : CXT) (C : Addr) (m : Str) (k : Nat) (ps : List Str) (sp : Sp) : Prop where
  ex : ∃ (f : Addr) (fd : FuncData), FnOk P w K mg base CX k f fd ps sp ∧ Meth K C m f ∧ PySem.W.isFn K (.ref f) = true ∧ Binds K fd ps []
/-- a class of the top with an own __init__ that keeps its promise -/
structure OwnC (CX : CXT) (x : Str) (C : Addr) (k : Nat) (ps : List Str) (sp : Sp) : Prop where
  ex : ∃ (f : Addr) (fd : FuncData), FnOk P w K mg base CX k f fd ps sp ∧ Mk K C f ∧ mg x = some (.ref C) ∧ Binds K fd ps []
end
section
variable {P : Program} {w : World} {K : PySem.W.Frag} {mg : Str → Option Value} {base : Heap} {CX : CXT} {x m qual : Str} {k : Nat} {ps : List Str} {sp : Sp} {st : Stmt} {C : Addr}
theorem DefAt.own (D : DefAt K mg x st ps) (h : ∀ f fd, Fun K x x st f fd → FnOk P w K mg base CX k f fd ps sp) : Own P w K mg base CX x k ps sp := by
  obtain ⟨f, fd, F, hm, hb⟩ := D.ex
  exact ⟨f, fd, h f fd F, hm, F.kp, hb⟩
theorem MethAt.own (D : MethAt K C m qual st ps) (h : ∀ f fd, Fun K m qual st f fd → FnOk P w K mg base CX k f fd ps sp) : OwnM P w K mg base CX C m k ps sp := by
  obtain ⟨f, fd, F, hm, hi, hb⟩ := D.ex
  exact ⟨f, fd, h f fd F, ⟨hm, hi, F.kp⟩, hi, hb⟩
theorem MethAt.cls (D : MethAt K C "__init__" qual st ps) (h : ∀ f fd, Fun K "__init__" qual st f fd → FnOk P w K mg base CX k f fd ps sp) (m1 : PySem.W.makesIn K C = true) (m2 : PySem.W.keepIn K (.ref C) = true) (m3 : mg x = some (.ref C)) :
    OwnC P w K mg base CX x C k ps sp := by
  obtain ⟨f, fd, F, hm, hi, hb⟩ := D.ex
  exact ⟨f, fd, h f fd F, ⟨m1, hm, hi, m2⟩, m3, hb⟩
end
section
variable {X : Cx} {CX : CXT} {x m : Str} {k : Nat} {ps : List Str} {sp : Sp} {e o : Expr} {es : List Expr} {t : TA} {ta : TE} {p pos apos : Pos} {C : Addr}
theorem pe_own (O : Own X.prog X.w X.K X.mg X.base CX x k ps sp) (hr : Room k X.A) (hx : Passes CX X E0) (ha : PA X (e :: es) t) (hg : Gl X x := by rfl) (hdb : (x == ("__debug__" : Str)) = false := by decide)
    (he : starEach (e :: es) X.env = (false, eval e X.env) :: starEach es X.env := by rfl) (hpl : (backTo pos (starEach es X.env)).any (·.1) = false := by rfl) : PE X (.Call (.Name x p) (e :: es) [] pos) (tCall sp [] E0 t) := by
  obtain ⟨f, fd, F, hm, hk, hb⟩ := O.ex
  exact pe_call F hr hg hm hk hb .nil hx ha hdb he hpl
theorem pe_own0 (O : Own X.prog X.w X.K X.mg X.base CX x k ps sp) (hr : Room k X.A) (hx : Passes CX X E0) (hg : Gl X x := by rfl) (hdb : (x == ("__debug__" : Str)) = false := by decide) : PE X (.Call (.Name x p) [] [] pos) (tCall sp [] E0 tNil) := by
  obtain ⟨f, fd, F, hm, hk, hb⟩ := O.ex
  exact pe_call0 F hr hg hm hk hb .nil hx hdb
/-- one that may raise; W is wished for what it raises -/
theorem pe_ownS {W : WX} (O : Own X.prog X.w X.K X.mg X.base (L2.CX X.prog X.w) x k ps sp) (hr : Room k X.A) (tk : Takes X W) (ha : PA X (e :: es) t) (hg : Gl X x := by rfl) (hdb : (x == ("__debug__" : Str)) = false := by decide)
    (he : starEach (e :: es) X.env = (false, eval e X.env) :: starEach es X.env := by rfl) (hpl : (backTo pos (starEach es X.env)).any (·.1) = false := by rfl) : PE X (.Call (.Name x p) (e :: es) [] pos) (tCallS sp (WE W) t) := by
  obtain ⟨f, fd, F, hm, hk, hb⟩ := O.ex
  exact pe_callS F hr hg hm hk hb (fun σ => passAt tk σ) ha hdb he hpl
theorem pe_new (O : OwnC X.prog X.w X.K X.mg X.base CX x C k ps sp) (hr : Room (k + 1) X.A) (hx : Passes CX X E0) (ha : PA X (e :: es) t) (hg : Gl X x := by rfl) (hdb : (x == ("__debug__" : Str)) = false := by decide)
    (he : starEach (e :: es) X.env = (false, eval e X.env) :: starEach es X.env := by rfl) (hpl : (backTo pos (starEach es X.env)).any (·.1) = false := by rfl) : PE X (.Call (.Name x p) (e :: es) [] pos) (tMake C sp [] E0 t) := by
  obtain ⟨f, fd, F, M, hm, hb⟩ := O.ex
  exact pe_make M F hr hg hm hb .nil hx ha hdb he hpl
theorem pe_newS {W : WX} (O : OwnC X.prog X.w X.K X.mg X.base (L2.CX X.prog X.w) x C k ps sp) (hr : Room (k + 1) X.A) (tk : Takes X W) (ha : PA X (e :: es) t) (hg : Gl X x := by rfl) (hdb : (x == ("__debug__" : Str)) = false := by decide)
    (he : starEach (e :: es) X.env = (false, eval e X.env) :: starEach es X.env := by rfl) (hpl : (backTo pos (starEach es X.env)).any (·.1) = false := by rfl) : PE X (.Call (.Name x p) (e :: es) [] pos) (tMakeS C sp [] (WE W) t) := by
  obtain ⟨f, fd, F, M, hm, hb⟩ := O.ex
  exact pe_makeS M F hr hg hm hb .nil (fun σ => passAt tk σ) ha hdb he hpl
theorem pe_gint {n : Int} (hm : ∃ t, X.mg x = some (.int n t)) (hg : Gl X x := by rfl) (hd : (x == ("__debug__" : Str)) = false := by decide) : PE X (.Name x pos) (tC (.int n)) := by
  obtain ⟨t, hm⟩ := hm
  exact pe_glob hg hm ⟨t, rfl⟩ hd
theorem pe_gcls (hm : X.mg x = some (.ref C)) (hg : Gl X x := by rfl) (hd : (x == ("__debug__" : Str)) = false := by decide) : PE X (.Name x pos) (tC (.ref C)) := pe_glob hg hm rfl hd
end
/-! ### ==, != by own methods, len -/
section
variable {X : Cx} {CX : CXT} {k : Nat} {C : Addr} {ps : List Str} {sp : Sp}
structure NeM (K : PySem.W.Frag) (C : Addr) : Prop where
  ne : PySem.W.findIn K (.ref C) "__ne__" = some (some (.builtin "object.__ne__"))
  ob : PySem.W.mroIn K C (.type "object") = some true
theorem eqO (O : OwnM X.prog X.w X.K X.mg X.base CX C "__eq__" k ps sp) (N : NeM X.K C) (hr : Room k X.A) (hx : Passes CX X E0) : OpR X (compareOp .Eq) (rEqO X.K C sp) := by
  obtain ⟨f, fd, F, M, hi, hb⟩ := O.ex
  exact op_eqO F ⟨M.at_, hi, N.ne, N.ob⟩ hr hb hx
theorem neO (O : OwnM X.prog X.w X.K X.mg X.base CX C "__eq__" k ps sp) (N : NeM X.K C) (hr : Room (k + 1) X.A) (hx : Passes CX X E0) : OpR X (compareOp .NotEq) (rNeO X.K C sp) := by
  obtain ⟨f, fd, F, M, hi, hb⟩ := O.ex
  exact op_neO F ⟨M.at_, hi, N.ne, N.ob⟩ hr hb hx
theorem lenO (O : OwnM X.prog X.w X.K X.mg X.base CX C "__len__" k ps sp) (hr : Room (k + 1) X.A) (hx : Passes CX X E0) : CallR X (.builtin "len") (rLenO C sp) := by
  obtain ⟨f, fd, F, M, hi, hb⟩ := O.ex
  exact call_lenO F M.at_ hi hr hb hx
end
end L2

set_option Elab.async false
set_option maxRecDepth 100000
set_option maxHeartbeats 4000000
/-! kinds of plain values; their isinstance -/
namespace L2
open PySem PySem.Spec PyProof.Rows
inductive Knd | int | bool | none | str | list | tuple
  deriving DecidableEq
def Knd.name : Knd → String
  | .int => "int" | .bool => "bool" | .none => "NoneType" | .str => "str" | .list => "list" | .tuple => "tuple"
def KndOf (H : Hp) (v : V) : Knd → Prop
  | .int => ∃ n, v = .int n
  | .bool => ∃ b, v = .bl b
  | .none => v = .non
  | .str => ∃ s, v = .str s
  | .list => ∃ a xs, v = .ref a ∧ H a = some (.lst xs)
  | .tuple => ∃ a xs, v = .ref a ∧ H a = some (.tup xs)
def Knd.isInt : Knd → Bool | .int => true | .bool => true | _ => false
def Knd.isBool : Knd → Bool | .bool => true | _ => false
def Knd.isSeq : Knd → Bool | .list => true | .tuple => true | _ => false
def Knd.isTup : Knd → Bool | .tuple => true | _ => false
def Knd.isList : Knd → Bool | .list => true | _ => false
def Knd.isStr : Knd → Bool | .str => true | _ => false
section
variable {K : PySem.W.Frag} {H : Hp} {v : V} {k : Knd}
theorem knd_ty (h : KndOf H v k) : TyX K H v (.type k.name) := by
  cases k with
  | int => obtain ⟨n, rfl⟩ := h; exact .base (.int n)
  | bool => obtain ⟨n, rfl⟩ := h; exact .base (.bl n)
  | none => cases h; exact .base .non
  | str => obtain ⟨n, rfl⟩ := h; exact .base (.str n)
  | list => obtain ⟨a, xs, rfl, e⟩ := h; exact .base (.lst e)
  | tuple => obtain ⟨a, xs, rfl, e⟩ := h; exact .base (.tup e)
theorem knd_int : PySem.W.kitOne K (.type k.name) (.type "int") = some k.isInt := by cases k <;> exact kit_ty (by decide +kernel)
theorem knd_bool : PySem.W.kitOne K (.type k.name) (.type "bool") = some k.isBool := by cases k <;> exact kit_ty (by decide +kernel)
theorem knd_tup : PySem.W.kitOne K (.type k.name) (.type "tuple") = some k.isTup := by cases k <;> exact kit_ty (by decide +kernel)
theorem knd_list : PySem.W.kitOne K (.type k.name) (.type "list") = some k.isList := by cases k <;> exact kit_ty (by decide +kernel)
theorem knd_str : PySem.W.kitOne K (.type k.name) (.type "str") = some k.isStr := by cases k <;> exact kit_ty (by decide +kernel)
theorem knd_seq : PySem.W.kitAny K (.type k.name) [.type "list", .type "tuple"] = some k.isSeq := by
  cases k
  case list => exact kitAny_cons knd_list (by intro h; cases h) (fun _ => rfl)
  case tuple => exact kitAny_cons knd_list (fun _ => kitAny_cons knd_tup (by intro h; cases h) (fun _ => rfl)) (by intro h; cases h)
  all_goals exact kitAny_cons knd_list (fun _ => kitAny_cons knd_tup (fun _ => kitAny_nil) (by intro h; cases h)) (by intro h; cases h)
theorem KndOf.ext {H' : Hp} (h : KndOf H v k) (e : Ext H H') : KndOf H' v k := by
  cases k with
  | list => obtain ⟨a, xs, r, q⟩ := h; exact ⟨a, xs, r, e _ _ q⟩
  | tuple => obtain ⟨a, xs, r, q⟩ := h; exact ⟨a, xs, r, e _ _ q⟩
  | _ => exact h
theorem ki (n : Int) : KndOf H (.int n) .int := ⟨n, rfl⟩
theorem kb (n : Bool) : KndOf H (.bl n) .bool := ⟨n, rfl⟩
theorem kn : KndOf H .non .none := rfl
theorem ks (n : Str) : KndOf H (.str n) .str := ⟨n, rfl⟩
end
/-- a value that is an int from a to b -/
def betw (v : V) (a b : Int) : Bool := match v with
  | .int n => decide (a ≤ n) && decide (n ≤ b)
  | _ => false
theorem betw_int {n a b : Int} : betw (.int n) a b = (decide (a ≤ n) && decide (n ≤ b)) := rfl
theorem betw_not {H : Hp} {v : V} {k : Knd} {a b : Int} (h : KndOf H v k) (hk : (k.isInt && !k.isBool) = false) : betw v a b = false := by
  cases k with
  | int => cases hk
  | bool => obtain ⟨n, rfl⟩ := h; rfl
  | none => cases h; rfl
  | str => obtain ⟨n, rfl⟩ := h; rfl
  | list => obtain ⟨n, xs, rfl, _⟩ := h; rfl
  | tuple => obtain ⟨n, xs, rfl, _⟩ := h; rfl
theorem knd_yes {k : Knd} (h : (k.isInt && !k.isBool) = true) : k = .int := by cases k <;> first | rfl | cases h
/-! ### isinstance, read -/
section
variable {K : PySem.W.Frag} {σ : St} {H : Hp} {v : V} {k : Knd} {Q : VK} {te : TE}
theorem v_isI (hk : KndOf H v k) {b : Bool} {c : String} (e : PySem.W.kitOne K (.type k.name) (.type c) = some b) (q : Q (.bl b) H) : rIsi K [v, .ty c] H Q :=
  ⟨v, .ty c, .type k.name, .type c, b, rfl, .ty c, knd_ty hk, e, q⟩
end
end L2

set_option Elab.async false
set_option maxRecDepth 100000
set_option maxHeartbeats 4000000
namespace L2
open PySem PySem.Spec PyProof.Rows
section
variable {K : PySem.W.Frag} {C : Addr}
theorem no_ref (l : List String) : (l.map Value.type).contains (Value.ref C) = false := by
  induction l with
  | nil => rfl
  | cons a l ih =>
    rw [List.map_cons, List.contains_cons, ih]
    rfl
theorem sub_ty_ref {T : String} (h : (fastFind? T).isSome = true) : PySem.W.subIn K (.type T) (.ref C) = some false := by
  obtain ⟨r, hr⟩ := Option.isSome_iff_exists.mp h
  show (fastBuiltinMro T).map (·.contains (Value.ref C)) = some false
  unfold fastBuiltinMro
  rw [hr]
  show some ((r.mro.map Value.type).contains (Value.ref C)) = some false
  rw [no_ref]
theorem knd_find (k : Knd) : (fastFind? k.name).isSome = true := by cases k <;> decide +kernel
/-- all that is asked of an own plain class x at C -/
structure ClsX (K : PySem.W.Frag) (mg : Str → Option Value) (x : Str) (C : Addr) : Prop where
  gC : mg x = some (.ref C)
  cl : Cls K C
  ha : PySem.W.findIn K (.ref C) "__class__" = some (some (.builtin "object.__class__"))
  hn : PySem.W.specialIn K (.builtin "object.__class__") "__get__" = some (some (.builtin "getset_descriptor.__get__"))
  htk : PySem.W.takesIn K (.builtin "object.__class__") = some true
  hm : PySem.W.mroIn K C (.type "object") = some true
  ne : PySem.W.findIn K (.ref C) "__ne__" = some (some (.builtin "object.__ne__"))
  is : PySem.W.isClsIn K C = true
  ty : PySem.W.typeIn K (.ref C) = some (.type "type")
  tup : PySem.W.subIn K (.ref C) (.type "tuple") = some false
  lst : PySem.W.subIn K (.ref C) (.type "list") = some false
  int : PySem.W.subIn K (.ref C) (.type "int") = some false
  str : PySem.W.subIn K (.ref C) (.type "str") = some false
variable {mg : Str → Option Value} {x : Str}
theorem ClsX.neM (T : ClsX K mg x C) : NeM K C := ⟨T.ne, T.hm⟩
theorem ClsX.tyOf (T : ClsX K mg x C) {H : Hp} {a dx : Addr} {fs : List (Str × V)} (e : H a = some (.ins C dx fs)) : TyX K H (.ref a) (.ref C) := .base (.ins e T.cl T.ha T.hn T.htk T.hm)
theorem ClsX.me (_ : ClsX K mg x C) : PySem.W.kitOne K (.ref C) (.ref C) = some true := if_pos (beq_self_eq_true _)
theorem ClsX.nfMe (_ : ClsX K mg x C) : PySem.W.notFirst K C (.ref C) = true := by
  show (Value.ref C == Value.ref C || _) = true
  rw [beq_self_eq_true]
  rfl
theorem ClsX.kitB (T : ClsX K mg x C) {t : Value} {b : Bool} (h : PySem.W.subIn K t (.ref C) = some b) (hne : (t == .ref C) = false) : PySem.W.kitOne K t (.ref C) = some b := by
  have e : ((PySem.W.clsIn K C).isSome && PySem.W.typeIn K (.ref C) == some (.type "type")) = true := by
    have h1 : (PySem.W.clsIn K C).isSome = true := T.is
    rw [h1, T.ty]
    rfl
  show (if (t == Value.ref C) = true then some true else if ((PySem.W.clsIn K C).isSome && PySem.W.typeIn K (.ref C) == some (.type "type")) = true then PySem.W.subIn K t (.ref C) else none) = some b
  rw [hne, if_neg Bool.false_ne_true, if_pos e]
  exact h
theorem ClsX.kitK (T : ClsX K mg x C) (k : Knd) : PySem.W.kitOne K (.type k.name) (.ref C) = some false := T.kitB (sub_ty_ref (knd_find k)) rfl
theorem ClsX.nfK (_ : ClsX K mg x C) (k : Knd) : PySem.W.notFirst K C (.type k.name) = true := by
  show (Value.type k.name == Value.ref C || PySem.W.subIn K (.type k.name) (.ref C) == some false) = true
  rw [sub_ty_ref (knd_find k)]
  exact Bool.or_eq_true_iff.mpr (.inr (by decide))
theorem kit_meta {T : String} {b : Bool} (h : PySem.W.subIn K (.ref C) (.type T) = some b) (hm : PySem.W.kitMeta T = true) : PySem.W.kitOne K (.ref C) (.type T) = some b := by
  show (if (Value.ref C == Value.type T) = true then some true else if PySem.W.kitMeta T = true then PySem.W.subIn K (.ref C) (.type T) else none) = some b
  rw [show (Value.ref C == Value.type T) = false from rfl, if_neg Bool.false_ne_true, if_pos hm]
  exact h
theorem ClsX.kTup (T : ClsX K mg x C) : PySem.W.kitOne K (.ref C) (.type "tuple") = some false := kit_meta T.tup (by decide +kernel)
theorem ClsX.kInt (T : ClsX K mg x C) : PySem.W.kitOne K (.ref C) (.type "int") = some false := kit_meta T.int (by decide +kernel)
theorem ClsX.kLst (T : ClsX K mg x C) : PySem.W.kitOne K (.ref C) (.type "list") = some false := kit_meta T.lst (by decide +kernel)
theorem ClsX.kStr (T : ClsX K mg x C) : PySem.W.kitOne K (.ref C) (.type "str") = some false := kit_meta T.str (by decide +kernel)
end
/-! ### an own error's class, from what the top has written -/
section
variable {P : Program} {w : World} {K : PySem.W.Frag} {mg : Str → Option Value} {base : Heap} {x f : Str} {C : Addr}
/-- what k_is finds of the class -/
structure XAt (K : PySem.W.Frag) (mg : Str → Option Value) (x f : Str) (C : Addr) (st : Stmt) (qual : Str) : Prop where
  ox : OexC K C
  gC : mg x = some (.ref C)
  noA : PySem.W.findIn K (.ref C) f = some none
  ec : ExcC K C
  tI : ∃ fI, PySem.W.findIn K (.ref C) "__init__" = some (some (.ref fI)) ∧ PySem.W.typeIn K (.ref fI) = some (.type "function") ∧ ∃ fd, Fun K "__init__" qual st fI fd ∧ Binds K fd ["self", f] []
theorem XAt.cls {st : Stmt} {qual : Str} (T : XAt K mg x f C st qual) (h : ∀ fI fd, Fun K "__init__" qual st fI fd → FnOk P w K mg base CX0 1 fI fd ["self", f] (spXI C f)) : XCls P w K mg base x f C := by
  obtain ⟨fI, i1, i2, fd, F, b⟩ := T.tI
  exact ⟨T.ox, T.gC, T.noA, T.ec, fI, fd, i1, i2, h fI fd F, b⟩
end
/-! ### fields -/
section
theorem lk_put {f g : Str} {v : V} {fs : List (Str × V)} : List.lookup g ((f, v) :: fs) = if (g == f) = true then some v else List.lookup g fs := by
  simp only [List.lookup]
  split
  · rename_i h; rw [h, if_pos rfl]
  · rename_i h; rw [h, if_neg Bool.false_ne_true]
end
end L2

set_option Elab.async false
set_option maxRecDepth 100000
set_option maxHeartbeats 4000000
/-! plain data: lists and tuples of flat values, compared -/
namespace L2
open PySem PySem.Spec PyProof.Rows
def pd : V → PyData
  | .int i => .int i
  | .bl b => .bool b
  | .str s => .str s
  | _ => .none
/-- flat, its text (if it is one) within the model's signs -/
def Fl : V → Prop
  | .int _ => True
  | .bl _ => True
  | .non => True
  | .str s => PySem.PyData.canLay0 (.str s) = true
  | _ => False
section
variable {K : PySem.W.Frag} {H : Hp} {v u : V}
theorem dp_fl (h : Fl v) : Dp K H v (pd v) := by
  cases v <;> first | exact .int _ | exact .bl _ | exact .str _ | exact .non | exact h.elim
theorem dp_all : ∀ {vs : List V}, (∀ v ∈ vs, Fl v) → DpAll K H vs (vs.map pd)
  | [], _ => .nil
  | v :: vs, h => .cons (dp_fl (h v List.mem_cons_self)) (dp_all fun u hu => h u (List.mem_cons_of_mem _ hu))
theorem lay_fl (h : Fl v) : (pd v).canLay0 = true := by
  cases v <;> first | rfl | exact h | exact h.elim
theorem dep_fl : (pd v).depth = 0 := by cases v <;> rfl
theorem lay_all : ∀ {vs : List V}, (∀ v ∈ vs, Fl v) → PyData.canLayAll0 (vs.map pd) = true ∧ PyData.depthAll (vs.map pd) = 0
  | [], _ => ⟨rfl, rfl⟩
  | v :: vs, h => by
    obtain ⟨a, b⟩ := lay_all (vs := vs) fun u hu => h u (List.mem_cons_of_mem _ hu)
    constructor
    · show ((pd v).canLay0 && PyData.canLayAll0 (vs.map pd)) = true
      rw [lay_fl (h v List.mem_cons_self), a]
      rfl
    · show max (pd v).depth (PyData.depthAll (vs.map pd)) = 0
      rw [dep_fl, b]
      rfl
theorem shp_fl (h : Fl v) : SeqAt.shaped (pd v) = true := by
  show ((pd v).canLay0 && decide ((pd v).depth ≤ 64)) = true
  rw [lay_fl h, dep_fl]
  rfl
theorem shp_tup {vs : List V} (h : ∀ v ∈ vs, Fl v) : SeqAt.shaped (.tuple (vs.map pd)) = true := by
  obtain ⟨a, b⟩ := lay_all h
  show (PyData.canLayAll0 (vs.map pd) && decide (PyData.depthAll (vs.map pd) + 1 ≤ 64)) = true
  rw [a, b]
  rfl
theorem shp_lst {vs : List V} (h : ∀ v ∈ vs, Fl v) : SeqAt.shaped (.list (vs.map pd)) = true := by
  obtain ⟨a, b⟩ := lay_all h
  show (PyData.canLayAll0 (vs.map pd) && decide (PyData.depthAll (vs.map pd) + 1 ≤ 64)) = true
  rw [a, b]
  rfl
theorem fl_int (n : Int) : Fl (.int n) := trivial
theorem fl_ints {ns : List Int} : ∀ v ∈ ns.map V.int, Fl v := fun v hv => by
  obtain ⟨n, _, rfl⟩ := List.mem_map.mp hv
  trivial
theorem eqv_ints : ∀ (ns ms : List Int), PyData.eqvAll ((ns.map V.int).map pd) ((ms.map V.int).map pd) = decide (ns = ms)
  | [], [] => rfl
  | [], _ :: _ => rfl
  | _ :: _, [] => rfl
  | n :: ns, m :: ms => by
    show ((n == m) && PyData.eqvAll ((ns.map V.int).map pd) ((ms.map V.int).map pd)) = decide (n :: ns = m :: ms)
    rw [eqv_ints ns ms, Bool.eq_iff_iff]
    simp
/-- the same values are equal data -/
theorem eqv_same : ∀ {vs : List V}, (∀ v ∈ vs, Fl v) → PyData.eqvAll (vs.map pd) (vs.map pd) = true
  | [], _ => rfl
  | v :: vs, h => by
    show (PyData.eqv (pd v) (pd v) && PyData.eqvAll (vs.map pd) (vs.map pd)) = true
    rw [eqv_same (vs := vs) fun u hu => h u (List.mem_cons_of_mem _ hu), Bool.and_true]
    cases v <;> first | rfl | (show (_ == _) = true; exact beq_self_eq_true _)
/-- two tuples compared (op_eqD, op_neD): what is left -/
theorem eqD_tup {p q : Addr} {vs us : List V} {Q : VK} (hp : SqT K H p vs) (hq : SqT K H q us) (fv : ∀ v ∈ vs, Fl v) (fu : ∀ v ∈ us, Fl v) (h : Q (.bl (PyData.eqvAll (vs.map pd) (us.map pd))) H) : rEqD K (.ref p) (.ref q) H Q :=
  ⟨_, _, .tup hp (dp_all fv), .tup hq (dp_all fu), shp_tup fv, shp_tup fu, h⟩
theorem neD_tup {p q : Addr} {vs us : List V} {Q : VK} (hp : SqT K H p vs) (hq : SqT K H q us) (fv : ∀ v ∈ vs, Fl v) (fu : ∀ v ∈ us, Fl v) (h : Q (.bl (!PyData.eqvAll (vs.map pd) (us.map pd))) H) : rNeD K (.ref p) (.ref q) H Q :=
  ⟨_, _, .tup hp (dp_all fv), .tup hq (dp_all fu), shp_tup fv, shp_tup fu, h⟩
theorem eqD_lst {p q : Addr} {vs us : List V} {Q : VK} (hp : SqL K H p vs) (hq : SqL K H q us) (fv : ∀ v ∈ vs, Fl v) (fu : ∀ v ∈ us, Fl v) (h : Q (.bl (PyData.eqvAll (vs.map pd) (us.map pd))) H) : rEqD K (.ref p) (.ref q) H Q :=
  ⟨_, _, .lst hp (dp_all fv), .lst hq (dp_all fu), shp_lst fv, shp_lst fu, h⟩
theorem neD_lst {p q : Addr} {vs us : List V} {Q : VK} (hp : SqL K H p vs) (hq : SqL K H q us) (fv : ∀ v ∈ vs, Fl v) (fu : ∀ v ∈ us, Fl v) (h : Q (.bl (!PyData.eqvAll (vs.map pd) (us.map pd))) H) : rNeD K (.ref p) (.ref q) H Q :=
  ⟨_, _, .lst hp (dp_all fv), .lst hq (dp_all fu), shp_lst fv, shp_lst fu, h⟩
end
end L2

set_option Elab.async false
set_option maxRecDepth 100000
set_option maxHeartbeats 4000000
namespace L2
open PySem PySem.Spec PyProof.Rows
section
variable {X : Cx}
/-- range(j), kept -/
theorem cr_range1 : CallR X (.type "range") (fun vs H Q => ∃ j, vs = [V.int j] ∧ ∀ p, H p = none → Q (.ref p) (upd H p (.rng 0 j))) := by
  intro pins s σ H vs us Q I r h
  obtain ⟨j, rfl, q⟩ := h
  obtain ⟨u1, rfl, rj⟩ := vals1 r
  obtain ⟨t, rfl⟩ := rj
  refine call_range_1 ⟨.ref s.heap.objs.size, upd H s.heap.objs.size (.rng 0 j), I.laid (t' := s.toks + 1 + 1) (fun b o e => Heap.get?_push_of_some _ e) (Nat.le_refl _) ?_, rfl, q _ (I.hok.fresh (Nat.le_refl _))⟩
  exact ⟨s.toks, t, s.toks + 1, Heap.get?_push_size _ rfl⟩
/-- len of a range -/
theorem call_lenR : CallR X (.builtin "len") (fun xs H Q => ∃ a lo hi, xs = [.ref a] ∧ H a = some (.rng lo hi) ∧ (hi - lo).toNat < 2 ^ 62 ∧ Q (.int ((hi - lo).toNat : Int)) H) := by
  intro pins s σ H xs us Q I r h
  obtain ⟨a, lo, hi, rfl, ha, hz, q⟩ := h
  rw [Vals.ref1 r]
  obtain ⟨t, u, v, ho⟩ := I.hok a _ ha
  exact call_len_range (n := (hi - lo).toNat) ho (rangeSize_nat lo hi) (by omega) ⟨.int ((hi - lo).toNat : Int), H, I.tok _, ⟨_, rfl⟩, q⟩
/-- sum of a tuple of ints -/
def rSumT (K : PySem.W.Frag) : List V → Hp → VK → Prop := fun vs H Q => ∃ (a : Addr) (ns : List Int), vs = [V.ref a] ∧ SqT K H a (ns.map V.int) ∧ Q (.int ns.sum) H
theorem cr_sumT (hc : X.calm = true) : CallR X (.builtin "sum") (rSumT X.K) := by
  intro pins s σ H vs us Q I r h
  obtain ⟨a, ns, rfl, hs, q⟩ := h
  obtain ⟨its, rv, hl, _⟩ := I.tuple hs
  rw [Vals.ref1 r]
  have hi := rv.ints
  obtain ⟨xs, e⟩ := hi.allInts.items
  have hn : numsOf (intItems xs).toList = ns := by rw [← e]; exact hi.numsOf
  rw [nums_intItems] at hn
  rw [e] at hl
  refine PySem.W.ktm_sumG (I.ok.hd hc) hl fun h' tk t' hk => ?_
  rw [preSum_eq, List.take_of_length_le (by simp), hn]
  exact ⟨.int ns.sum, H, I.kept hk, ⟨_, rfl⟩, q⟩
end
end L2

set_option Elab.async false
set_option maxRecDepth 100000
set_option maxHeartbeats 4000000
namespace L2
open PySem PySem.Spec PyProof.Rows
/-- a list or tuple at p of the items xs -/
def Sq (H : Hp) (p : Addr) (xs : List V) : Prop := H p = some (.lst xs) ∨ H p = some (.tup xs)
section
variable {K : PySem.W.Frag} {H H' : Hp} {p : Addr} {xs : List V}
theorem Sq.k (h : Sq H p xs) : ∃ k, KndOf H (.ref p) k ∧ k.isSeq = true := by
  rcases h with h | h
  · exact ⟨.list, ⟨p, xs, rfl, h⟩, rfl⟩
  · exact ⟨.tuple, ⟨p, xs, rfl, h⟩, rfl⟩
theorem Sq.ext (h : Sq H p xs) (e : Ext H H') : Sq H' p xs := h.imp (e _ _) (e _ _)
theorem Sq.l (h : Sq H p xs) : SqL K H p xs ∨ SqT K H p xs := h.imp SqL.of SqT.of
theorem ext_mut {D : Addr} {o : HO} (e : Ext H H') (h : H D = none) : Ext H (upd H' D o) := fun a u ha => by
  rw [upd_ne (ne_of_none ha h)]
  exact e a u ha
theorem ext_none {D : Addr} (e : Ext H H') (h : H' D = none) : H D = none := by
  cases h1 : H D with
  | none => rfl
  | some o =>
    rw [e D o h1] at h
    cases h
end
section
variable {X : Cx} {tg : Expr}
/-- a list or a tuple is walked -/
def iSq (K : PySem.W.Frag) (tl : TE) : TI := fun σ H R => tl σ H fun x H1 => ∃ a, x = .ref a ∧ (((∃ xs, SqL K H1 a xs) ∧ R (Itl K a) H1) ∨ ((∃ xs, SqT K H1 a xs) ∧ R (Itt K a) H1))
theorem pi_sq {l : Expr} {tl : TE} (hl : PE X l tl) : PI X tg l (iSq X.K tl) := by
  refine ⟨fun pins s σ H R I h => ?_⟩
  refine thn (hl.run pins s σ H _ I h) fun v s1 ⟨x, H1, I1, r1, q1⟩ => ?_
  obtain ⟨a, e, q1⟩ := q1
  subst e
  cases r1
  rcases q1 with ⟨⟨xs, hq⟩, q⟩ | ⟨⟨xs, hq⟩, q⟩
  · obtain ⟨its, rv, p, hz⟩ := I1.list hq
    refine wpAny_pyIter_list p.isList ?_
    refine ⟨s1.heap.objs.size, [s1.heap.objs.size], _, _, H1, rfl, I1.kept (t' := s1.toks) fun b o e => Heap.get?_push_of_some _ e, turn_list a _, ⟨_, Heap.get?_push_size _ rfl, rfl, rfl⟩, fun b hb => ?_, q⟩
    have e : b = s1.heap.objs.size := by simpa using hb
    subst e
    exact I1.fpOk (Nat.le_refl _) (I1.hok.fresh (Nat.le_refl _))
  · obtain ⟨its, rv, p, hz⟩ := I1.tuple hq
    refine wpAny_pyIter_tuple (show s1.heap.IsTuple a its.toArray from p) ?_
    refine ⟨s1.heap.objs.size, [s1.heap.objs.size], _, _, H1, rfl, I1.kept (t' := s1.toks) fun b o e => Heap.get?_push_of_some _ e, turn_tuple a _, ⟨_, Heap.get?_push_size _ rfl, rfl, rfl⟩, fun b hb => ?_, q⟩
    have e : b = s1.heap.objs.size := by simpa using hb
    subst e
    exact I1.fpOk (Nat.le_refl _) (I1.hok.fresh (Nat.le_refl _))
end
section
variable {K : PySem.W.Frag} {σ : St} {H : Hp} {p : Addr} {xs : List V} {te : TE} {tt : TT} {j : Nat} {vs : List Nat} {Q : VK}
theorem take_snoc {α : Type} {l : List α} {i : Nat} {x : α} (h : l[i]? = some x) : l.take (i + 1) = l.take i ++ [x] := by
  rw [List.take_add_one, h]
  rfl
/-- [f(x) for x in xs if b(x)], what is tested and made only adding to the heap: the reading behind the source's own -/
theorem lc_sqR {Qd : Addr → Hp → Prop} {f : V → V} {b : V → Bool} (hx : Sq H p xs) (hz : xs.length < sizeLine) (hw : ∀ x, wipe ((wipe σ vs).set j (some x)) vs = wipe σ vs)
    (ht : ∀ x ∈ xs, ∀ H', Ext H H' → ∀ Q : Bool → Hp → Prop, (∀ H'', Ext H' H'' → Q (b x) H'') → tt ((wipe σ vs).set j (some x)) H' Q)
    (he : ∀ x ∈ xs, b x = true → ∀ H', Ext H H' → ∀ Q : VK, (∀ H'', Ext H' H'' → Q (f x) H'') → te ((wipe σ vs).set j (some x)) H' Q)
    (q : ∀ D H', H D = none → Ext H H' → H' D = some (.lst ((xs.filter b).map f)) → Qd D H') :
    ((∃ xs, SqL K H p xs) ∧ (fun J H1 => ∀ D, H1 D = none → ∃ W : Nat → Nat → Hp → Prop, (∃ m, W 0 m (upd H1 D (.lst []))) ∧ ∀ i m H, W i m H →
      (J.stop i H ∧ Qd D H) ∨ (J.go i H ∧ ∃ Nx : Hp → Prop, (∀ H', Nx H' → ∃ m', m' < m ∧ W (i + 1) m' H') ∧ ∀ x H', J.yld i H x H' → gName j x (wipe σ vs) H' fun σ2 H2 => wipe σ2 vs = wipe σ vs ∧ tt σ2 H2 fun b H3 =>
        if b = true then te σ2 H3 fun y H4 => ∃ acc, H4 D = some (.lst acc) ∧ acc.length < sizeLine ∧ Nx (upd H4 D (.lst (acc ++ [y]))) else Nx H3)) (Itl K p) H) ∨
    ((∃ xs, SqT K H p xs) ∧ (fun J H1 => ∀ D, H1 D = none → ∃ W : Nat → Nat → Hp → Prop, (∃ m, W 0 m (upd H1 D (.lst []))) ∧ ∀ i m H, W i m H →
      (J.stop i H ∧ Qd D H) ∨ (J.go i H ∧ ∃ Nx : Hp → Prop, (∀ H', Nx H' → ∃ m', m' < m ∧ W (i + 1) m' H') ∧ ∀ x H', J.yld i H x H' → gName j x (wipe σ vs) H' fun σ2 H2 => wipe σ2 vs = wipe σ vs ∧ tt σ2 H2 fun b H3 =>
        if b = true then te σ2 H3 fun y H4 => ∃ acc, H4 D = some (.lst acc) ∧ acc.length < sizeLine ∧ Nx (upd H4 D (.lst (acc ++ [y]))) else Nx H3)) (Itt K p) H) := by
  have turn : ∀ (D : Addr), H D = none → ∀ i x H', xs[i]? = some x → (Ext H H' ∧ H' D = some (.lst (((xs.take i).filter b).map f))) → gName j x (wipe σ vs) H' fun σ2 H2 => wipe σ2 vs = wipe σ vs ∧ tt σ2 H2 fun b' H3 =>
      if b' = true then te σ2 H3 fun y H4 => ∃ acc, H4 D = some (.lst acc) ∧ acc.length < sizeLine ∧ (Ext H (upd H4 D (.lst (acc ++ [y]))) ∧ upd H4 D (.lst (acc ++ [y])) D = some (.lst (((xs.take (i + 1)).filter b).map f))) else (Ext H H3 ∧ H3 D = some (.lst (((xs.take (i + 1)).filter b).map f))) := by
    intro D hD i x H' hi pv
    obtain ⟨e, hl⟩ := pv
    have hm : x ∈ xs := List.mem_of_getElem? hi
    refine ⟨hw x, ht x hm H' e _ fun H3 e3 => ?_⟩
    have hl3 : H3 D = some (.lst (((xs.take i).filter b).map f)) := e3 _ _ hl
    cases hb : b x with
    | true =>
      refine iteT (he x hm hb H3 (e.trans e3) _ fun H4 e4 => ⟨_, e4 _ _ hl3, ?_, ext_mut ((e.trans e3).trans e4) hD, ?_⟩)
      · rw [List.length_map]
        refine Nat.lt_of_le_of_lt (Nat.le_trans (List.length_filter_le _ _) ?_) hz
        exact List.length_take_le' _ _
      · rw [upd_same, take_snoc hi, List.filter_append, List.map_append]
        simp [hb]
    | false =>
      refine iteF ⟨e.trans e3, ?_⟩
      rw [hl3, take_snoc hi, List.filter_append, List.map_append]
      simp [hb]
  have fin : ∀ D, H D = none → ∀ H', (Ext H H' ∧ H' D = some (.lst (((xs.take xs.length).filter b).map f))) → Qd D H' := fun D hD H' pv => by
    rw [List.take_length] at pv
    exact q D H' hD pv.1 pv.2
  rcases hx with hx | hx
  · refine .inl ⟨⟨xs, SqL.of hx⟩, fun D hD => lc_list (xs := xs) (fun i H' => Ext H H' ∧ H' D = some (.lst (((xs.take i).filter b).map f))) ⟨Ext.upd hD, upd_same⟩ (fun i H' _ pv => SqL.of (pv.1 _ _ hx)) (fun i x H' hi pv => turn D hD i x H' hi pv) (fun H' pv => fin D hD H' pv)⟩
  · refine .inr ⟨⟨xs, SqT.of hx⟩, fun D hD => lc_tup (xs := xs) (fun i H' => Ext H H' ∧ H' D = some (.lst (((xs.take i).filter b).map f))) ⟨Ext.upd hD, upd_same⟩ (fun i H' _ pv => SqT.of (pv.1 _ _ hx)) (fun i x H' hi pv => turn D hD i x H' hi pv) (fun H' pv => fin D hD H' pv)⟩
end
theorem filter_all {α : Type} (l : List α) : l.filter (fun _ => true) = l := List.filter_eq_self.mpr fun _ _ => rfl
end L2

set_option Elab.async false
set_option maxRecDepth 100000
set_option maxHeartbeats 4000000
/-! enumerate over a list or a tuple -/
namespace PySem
open Sem (wp)
/-- the maker of enumerate, handed one thing whose iterator is told -/
theorem en1_meets {v : Value} {ob : Obj} {HP : Heap → Prop} (BG : Begins v ob HP) :
    Meets (Builtin.«enumerate.__new__» ⟨[.type "enumerate", v], []⟩) (fun _ RR sh => HP sh.heap ∧
      RR (.ok (.ret (.ref (sh.heap.push ob).objs.size)))
        { sh with heap := (sh.heap.push ob).push { cls := .type "enumerate", data := .fields #[.none, .bool false, .ref sh.heap.objs.size, rawInt 0, .none, .none] } }) :=
  .of_wp fun pr ww AA RR sh hh => by
    obtain ⟨hp, gg, dd, tk, os⟩ := sh
    obtain ⟨hh1, hh⟩ := hh
    have sub1 := sub_enumerate
    have begin1 : ∀ {A1 : Around} {E1 Q1 : Value → Shared → Prop}, Q1 (.ref hp.objs.size) ⟨hp.push ob, gg, dd, tk, os⟩ →
        wpAny (model pr ww) A1 (pyIter v) Q1 E1 ⟨hp, gg, dd, tk, os⟩ :=
      fun qq => BG.iter pr ww _ _ ⟨hp, gg, dd, tk, os⟩ _ hh1 qq
    wp_walk using begin1
    refine wpAny_stack_any fun sta => wpAny_pure ?_
    split
    · rename_i cc _ _ _ _ _
      cases (cc == Value.type "enumerate")
      all_goals
        wp_walk using begin1
        exact ⟨_, rfl, hh⟩
    · wp_walk using begin1
      exact ⟨_, rfl, hh⟩
section
variable {pr : Program} {ww : World} {AA : Around} {EE : Value → Shared → Prop} {sh : Shared}
theorem en1_call {v : Value} {ob : Obj} {HP : Heap → Prop} {QQ : Value → Shared → Prop} (BG : Begins v ob HP) (hh : HP sh.heap)
    (kk : ∀ h1, IsEnum h1 (sh.heap.objs.size + 1) sh.heap.objs.size 0 .none → h1.get? sh.heap.objs.size = some ob →
      (∀ x y, sh.heap.get? x = some y → h1.get? x = some y) → QQ (.ref (sh.heap.objs.size + 1)) { sh with heap := h1 }) :
    wpAny (model pr ww) AA (call (.type "enumerate") [v]) QQ EE sh := by
  refine callType_new F.called_enumerate (by decide) (F.typeCall_enumerate_1 _) (F.newCall_enumerate_1 _) (fun oo => F.args_object_init_2 oo _) F.entry_enumerate_new (en1_meets BG) ⟨hh, ?_⟩
  have sz : (sh.heap.push ob).objs.size = sh.heap.objs.size + 1 := Heap.size_push ..
  show _ ∧ _
  rw [sz]
  have en : IsEnum ((sh.heap.push ob).push { cls := .type "enumerate", data := .fields #[.none, .bool false, .ref sh.heap.objs.size, rawInt 0, .none, .none] })
      (sh.heap.objs.size + 1) sh.heap.objs.size 0 .none := by
    have qq := Heap.get?_push_size (sh.heap.push ob) (o := { cls := .type "enumerate", data := .fields #[.none, .bool false, .ref sh.heap.objs.size, rawInt 0, .none, .none] }) rfl
    rw [sz] at qq
    exact qq
  exact ⟨⟨_, en, rfl⟩, kk _ en (Heap.get?_push_of_some _ (Heap.get?_push_size _ BG.free)) fun x y hx => Heap.get?_push_of_some _ (Heap.get?_push_of_some _ hx)⟩
end
end PySem
namespace L2
open PySem PySem.Spec PyProof.Rows
/-- the tuple at a, each item in a new pair with its place -/
def Itet (K : PySem.W.Frag) (a : Addr) : It :=
  ⟨fun i H => ∃ xs : List V, SqT K H a xs ∧ i < xs.length,
    fun i H v H' => ∃ T x, v = .ref T ∧ H T = none ∧ H' = upd H T (.tup [.int (i : Nat), x]) ∧ ∀ xs, SqT K H a xs → xs[i]? = some x,
    fun i H => ∃ xs : List V, SqT K H a xs ∧ xs.length = i⟩
theorem turn_enT {P : Program} {w : World} {K : PySem.W.Frag} {elts : List Expr} {kk : Nat} {tpos : Pos} (a e it : Addr) (hea : e ≠ a) (hia : a ≠ it) :
    Turn P w K (.Tuple elts kk tpos) (Itet K a) [e, it] e (fun i h => (∃ old, IsEnum h e it ((i : Nat) : Int) old) ∧ h.IsTupleIter it a i ∧ e ≠ it) where
  mem := List.mem_cons_self
  obj := fun i h st b hb => by
    obtain ⟨⟨old, he⟩, ⟨o, ho, _, hd⟩, _⟩ := st
    rcases List.mem_cons.mp hb with z | z
    · subst z
      exact ⟨_, he, fun v q => nomatch q⟩
    · have z' := List.mem_singleton.mp z
      subst z'
      exact ⟨o, ho, fun v q => by rw [hd] at q; cases q⟩
  keep := fun i h h' st k => by
    obtain ⟨⟨old, he⟩, hi, hne⟩ := st
    exact ⟨⟨old, k e List.mem_cons_self _ he⟩, hi.at fun o q => k it (List.mem_cons_of_mem _ (List.mem_singleton.mpr rfl)) o q, hne⟩
  item := by
    intro X hP hw hK hc i pins s σ H E I hf st hg
    subst hP hw hK
    obtain ⟨⟨old, he⟩, hit, hne⟩ := st
    obtain ⟨xs, hq, hx⟩ := hg
    obtain ⟨its, rv, p, hz⟩ := I.tuple hq
    have hl := rv.length
    have hel : e < s.heap.objs.size := Heap.lt_size he
    have hil : it < s.heap.objs.size := by
      obtain ⟨_, q, _⟩ := hit
      exact Heap.lt_size q
    have D := Draws.tuple (prog := X.prog) (w := X.w) (A := X.A.in1) (show X.A.in1.handled = none from I.ok.hd hc) it a hia its.toArray
    refine wpAny_pyNext_enum_itemC D he (i := i) ⟨hit, p⟩ (by simp; omega) hne (by simp [hne, hea]) fun u h' tk hP ho hst' hT hsz hk => ?_
    have hu : its[i]? = some u := by simpa using hP
    obtain ⟨x, hxx⟩ : ∃ x, xs[i]? = some x := ⟨_, List.getElem?_eq_getElem hx⟩
    obtain ⟨u', hu', ru'⟩ := rv.get hxx
    have eu : u' = u := Option.some.inj (hu'.symm.trans hu)
    subst eu
    refine ⟨_, rfl, wpAny_letOwnedTupleGo_enum (s := { s with heap := h', toks := tk + 1 }) ho fun h2 he2 sb => ?_⟩
    have hT2 : h2.get? s.heap.objs.size = some { cls := .type "tuple", data := .seq #[.int i tk, u'] } := (sb.2 _ (Nat.ne_of_gt hel)).trans hT
    have new : ObjOk X.prog X.w (upd H s.heap.objs.size (.tup [.int (i : Nat), x])) h2 s.heap.objs.size (.tup [.int (i : Nat), x]) := by
      refine ⟨?_, [.int i tk, u'], .cons ⟨_, rfl⟩ (.cons ru' .nil), ⟨_, hT2, rfl, _, rfl⟩⟩
      show 2 ≤ sizeLine
      decide
    have I1 : Inv X pins σ (upd H s.heap.objs.size (.tup [.int (i : Nat), x])) { s with heap := h2, toks := tk + 1 } := by
      refine I.turnedNew (ch := [e, it]) (fun b ob hb q => ?_) hf (Nat.le_refl _) new
      have b1 : b ≠ e := fun z => hb (by simp [z])
      have b2 : b ≠ it := fun z => hb (by simp [z])
      exact (sb.2 b b1).trans (hk b ob b1 b2 q)
    refine ⟨.ref s.heap.objs.size, _, I1, rfl, ⟨_, x, rfl, I.hok.fresh (Nat.le_refl _), rfl, fun ys hy => ?_⟩, ⟨⟨u', ?_⟩, hst'.1.at fun o q => (sb.2 it (Ne.symm hne)).trans q, hne⟩, fun b hb => ?_⟩
    · obtain ⟨its2, rv2, p2, _⟩ := I.tuple hy
      rw [I.tuple_inj hy hq]
      exact hxx
    · have e1 : ((i + 1 : Nat) : Int) = (i : Int) + 1 := rfl
      rw [e1]
      exact he2
    · have hb' : b < s.heap.objs.size := by
        rcases List.mem_cons.mp hb with z | z
        · rw [z]
          exact hel
        · rw [List.mem_singleton.mp z]
          exact hil
      rw [upd_ne (Nat.ne_of_lt hb')]
      exact (hf b hb).1
  done := by
    intro X hP hw hK hc i pins s σ H E I hf st hg
    subst hP hw hK
    obtain ⟨⟨old, he⟩, hit, hne⟩ := st
    obtain ⟨xs, hq, hx⟩ := hg
    obtain ⟨its, rv, p, hz⟩ := I.tuple hq
    have hl := rv.length
    obtain ⟨f0, f1, f2, f3, f4, f5⟩ := hf it (List.mem_cons_of_mem _ (List.mem_singleton.mpr rfl))
    have D := Draws.tuple (prog := X.prog) (w := X.w) (A := X.A.in1) (show X.A.in1.handled = none from I.ok.hd hc) it a hia its.toArray
    have ei : i = its.toArray.size := by simp; omega
    refine wpAny_pyNext_enum_endD D he (by rw [← ei]; exact ⟨hit, p⟩) fun h' eb => ⟨rfl, ?_⟩
    exact I.turned (t' := s.toks) (fun b o hb q => eb b o hb q) f0 f1 f3 f4 f5
  self := fun A i s Q E st h => by
    obtain ⟨⟨_, he⟩, _⟩ := st
    exact wpAny_pyIter_enum he h
/-- a list or a tuple is walked with the places -/
def iEnSq (K : PySem.W.Frag) (ta : TA) : TI := fun σ H R => ta σ H fun vs H1 => ∃ a, vs = [.ref a] ∧ (((∃ xs, SqL K H1 a xs) ∧ R (Ite K a) H1) ∨ ((∃ xs, SqT K H1 a xs) ∧ R (Itet K a) H1))
theorem pi_enSq {X : Cx} {e : Expr} {ta : TA} {p pos tpos : Pos} {elts : List Expr} {kk : Nat} (hg : Gl X "enumerate") (hm : X.mg "enumerate" = none) (ha : PA X [e] ta) (hs : starEach [e] X.env = [(false, eval e X.env)] := by rfl) :
    PI X (.Tuple elts kk tpos) (.Call (.Name "enumerate" p) [e] [] pos) (iEnSq X.K ta) := by
  refine ⟨fun pins s σ H R I h => ?_⟩
  refine Call_ (ld_blt I hg hm boot_enumerate (PyProof.Rows.callWith_type1 (thn (ha.run pos pins s σ H _ I h) fun us s1 ⟨vs, H1, I1, r1, q1⟩ => ?_) hs rfl))
  obtain ⟨a, ex, q1⟩ := q1
  subst ex
  obtain rfl := Vals.ref1 r1
  have two : ∀ b, b ∈ [s1.heap.objs.size + 1, s1.heap.objs.size] → s1.heap.objs.size ≤ b := fun b hb => by
    rcases List.mem_cons.mp hb with z | z
    · rw [z]
      exact Nat.le_add_right _ _
    · rw [List.mem_singleton.mp z]
      exact Nat.le_refl _
  rcases q1 with ⟨⟨xs, hq⟩, q⟩ | ⟨⟨xs, hq⟩, q⟩
  · obtain ⟨its, rv, p', hz⟩ := I1.list hq
    refine en1_call (begins_list a its.toArray) p'.isList fun h' he hit hk => wpAny_pyIter_enum he ?_
    have I2 : Inv X pins σ H1 { s1 with heap := h' } := I1.kept (t' := s1.toks) hk
    refine ⟨s1.heap.objs.size + 1, [s1.heap.objs.size + 1, s1.heap.objs.size], _, _, H1, rfl, I2, turn_enum a (s1.heap.objs.size + 1) s1.heap.objs.size, ⟨⟨.none, he⟩, ⟨_, hit, rfl, rfl⟩, Nat.succ_ne_self _⟩, fun b hb => ?_, q⟩
    exact I1.fpOk (two b hb) (I1.hok.fresh (two b hb))
  · obtain ⟨its, rv, p', hz⟩ := I1.tuple hq
    have hlt : a < s1.heap.objs.size := by
      obtain ⟨o, ho, _⟩ := (show s1.heap.IsTuple a its.toArray from p')
      exact Heap.lt_size ho
    refine en1_call (begins_tuple a its.toArray) p' fun h' he hit hk => wpAny_pyIter_enum he ?_
    have I2 : Inv X pins σ H1 { s1 with heap := h' } := I1.kept (t' := s1.toks) hk
    refine ⟨s1.heap.objs.size + 1, [s1.heap.objs.size + 1, s1.heap.objs.size], _, _, H1, rfl, I2, turn_enT a (s1.heap.objs.size + 1) s1.heap.objs.size (Nat.ne_of_gt (Nat.lt_succ_of_lt hlt)) (Nat.ne_of_lt hlt), ⟨⟨.none, he⟩, ⟨_, hit, rfl, rfl⟩, Nat.succ_ne_self _⟩, fun b hb => ?_, q⟩
    exact I1.fpOk (two b hb) (I1.hok.fresh (two b hb))
section
variable {K : PySem.W.Frag} {a : Addr} {xs : List V}
theorem walk_enT : Walk (Itet K a) xs.length (fun H => SqT K H a xs) (YPair (fun i => some (.int (i : Nat))) (fun i => xs[i]?)) := by
  refine ⟨fun i _ hi q => ⟨xs, q, hi⟩, fun _ q => ⟨xs, q, rfl⟩, fun i H v H' _ q y => ?_⟩
  obtain ⟨T, x, e1, e2, e3, e4⟩ := y
  exact ⟨T, .int (i : Nat), x, e1, e2, e3, rfl, e4 xs q⟩
/-- the turns of an end: what goes on is N -/
def turnsOf (g : TG) (tb : TS) (D : Ends) (σ : St) (J : It) (H : Hp) : Prop := ∃ W : Nat → Nat → St → Hp → Prop, (∃ m, W 0 m σ H) ∧ ∀ i m σ H, W i m σ H →
  (J.stop i H ∧ D.nx σ H) ∨ (J.go i H ∧ ∃ N : St → Hp → Prop, (∀ σ' H', N σ' H' → ∃ m', m' < m ∧ W (i + 1) m' σ' H') ∧ ∀ x H', J.yld i H x H' → g x σ H' fun σ2 H2 => tb { D with nx := N, ct := N, bk := D.nx } σ2 H2)
theorem for_enSq {g : TG} {tb : TS} {D : Ends} {σ : St} {H : Hp} (hx : SqL K H a xs ∨ SqT K H a xs) (Pv : Nat → St → Hp → Prop) (h0 : Pv 0 σ H) (hE : ∀ i σ' H', Pv i σ' H' → Ext H H')
    (hs : ∀ i x σ' H' T, xs[i]? = some x → Pv i σ' H' → H' T = none → g (.ref T) σ' (upd H' T (.tup [.int (i : Nat), x])) fun σ2 H2 => tb { D with nx := Pv (i + 1), ct := Pv (i + 1), bk := D.nx } σ2 H2) (hd : ∀ σ' H', Pv xs.length σ' H' → D.nx σ' H') :
    ((∃ xs, SqL K H a xs) ∧ turnsOf g tb D σ (Ite K a) H) ∨ ((∃ xs, SqT K H a xs) ∧ turnsOf g tb D σ (Itet K a) H) := by
  have step : ∀ i x σ' H' H'', i < xs.length → Pv i σ' H' → YPair (fun i => some (V.int (i : Nat))) (fun i => xs[i]?) i H' x H'' → g x σ' H'' fun σ2 H2 => tb { D with nx := Pv (i + 1), ct := Pv (i + 1), bk := D.nx } σ2 H2 := by
    rintro i v σ' H' H'' hi pv ⟨T, x, y, rfl, hT, rfl, hx', hy⟩
    cases hx'
    exact hs i y σ' H' T hy pv hT
  rcases hx with hx | hx
  · exact .inl ⟨⟨xs, hx⟩, for_it (walk_enum (xs := xs)) Pv h0 (fun i σ' H' _ pv => hx.ext (hE i σ' H' pv)) step hd⟩
  · exact .inr ⟨⟨xs, hx⟩, for_it (walk_enT (xs := xs)) Pv h0 (fun i σ' H' _ pv => hx.ext (hE i σ' H' pv)) step hd⟩
end
end L2

set_option Elab.async false
set_option maxRecDepth 100000
set_option maxHeartbeats 4000000
/-! values told by the data that they hold -/
namespace L2
open PySem PySem.Spec PyProof.Rows
/-- the type's name -/
def tnD : PyData → String
  | .none => "NoneType" | .bool _ => "bool" | .int _ => "int" | .str _ => "str" | .list _ => "list" | .tuple _ => "tuple" | .dict _ => "dict"
def isIntD : PyData → Bool | .int _ => true | .bool _ => true | _ => false
def isBoolD : PyData → Bool | .bool _ => true | _ => false
def isTupD : PyData → Bool | .tuple _ => true | _ => false
def isListD : PyData → Bool | .list _ => true | _ => false
def isStrD : PyData → Bool | .str _ => true | _ => false
def isSeqD : PyData → Bool | .list _ => true | .tuple _ => true | _ => false
def isNoneD : PyData → Bool | .none => true | _ => false
/-- the int that it is, no truth -/
def betD (d : PyData) (a b : Int) : Bool := match d with
  | .int n => decide (a ≤ n) && decide (n ≤ b)
  | _ => false
def lenD : PyData → Nat | .list ds => ds.length | .tuple ds => ds.length | _ => 0
section
variable {K : PySem.W.Frag} {H H' : Hp} {v : V} {d : PyData}
theorem dp_ty (h : Dp K H v d) : TyX K H v (.type (tnD d)) := by
  cases h with
  | non => exact .base .non
  | bl b => exact .base (.bl b)
  | int i => exact .base (.int i)
  | str s => exact .base (.str s)
  | lst hs _ =>
    rcases hs with (h | ⟨o, h⟩) | ⟨o, its, n, e, c, _⟩
    · exact .base (.lst h)
    · exact .base (.frz h)
    · exact .kList e c
  | tup hs _ =>
    rcases hs with (h | ⟨o, h⟩) | ⟨o, its, n, e, c, _⟩
    · exact .base (.tup h)
    · exact .fTuple h
    · exact .kTuple e c
theorem kd_int : PySem.W.kitOne K (.type (tnD d)) (.type "int") = some (isIntD d) := by cases d <;> exact kit_ty (by dsimp only [tnD, isIntD]; decide +kernel)
theorem kd_bool : PySem.W.kitOne K (.type (tnD d)) (.type "bool") = some (isBoolD d) := by cases d <;> exact kit_ty (by dsimp only [tnD, isBoolD]; decide +kernel)
theorem kd_tup : PySem.W.kitOne K (.type (tnD d)) (.type "tuple") = some (isTupD d) := by cases d <;> exact kit_ty (by dsimp only [tnD, isTupD]; decide +kernel)
theorem kd_list : PySem.W.kitOne K (.type (tnD d)) (.type "list") = some (isListD d) := by cases d <;> exact kit_ty (by dsimp only [tnD, isListD]; decide +kernel)
theorem kd_seq : PySem.W.kitAny K (.type (tnD d)) [.type "list", .type "tuple"] = some (isSeqD d) := by
  unfold PySem.W.kitAny
  rw [kd_list]
  unfold PySem.W.kitAny
  rw [kd_tup]
  cases d <;> rfl
theorem kd_find : (fastFind? (tnD d)).isSome = true := by cases d <;> (dsimp only [tnD]; decide +kernel)
mutual
theorem dp_ext (e : Ext H H') : ∀ (d : PyData) (v : V), Dp K H v d → Dp K H' v d
  | .none, _, h => by cases h; exact .non
  | .bool _, _, h => by cases h; exact .bl _
  | .int _, _, h => by cases h; exact .int _
  | .str _, _, h => by cases h; exact .str _
  | .list ds, _, h => by
    cases h with
    | lst hs ha => exact .lst (hs.ext e) (dps_ext e ds _ ha)
  | .tuple ds, _, h => by
    cases h with
    | tup hs ha => exact .tup (hs.ext e) (dps_ext e ds _ ha)
  | .dict _, _, h => by cases h
theorem dps_ext (e : Ext H H') : ∀ (ds : List PyData) (vs : List V), DpAll K H vs ds → DpAll K H' vs ds
  | [], _, h => by cases h; exact .nil
  | d :: ds, _, h => by
    cases h with
    | cons h1 h2 => exact .cons (dp_ext e d _ h1) (dps_ext e ds _ h2)
end
theorem dps_len : ∀ {vs : List V} {ds : List PyData}, DpAll K H vs ds → vs.length = ds.length
  | [], _, h => by cases h; rfl
  | v :: vs, _, h => by
    cases h with
    | cons _ h2 => exact congrArg Nat.succ (dps_len h2)
theorem dps_get : ∀ {vs : List V} {ds : List PyData} {i : Nat} {v : V}, DpAll K H vs ds → vs[i]? = some v → ∃ d, ds[i]? = some d ∧ Dp K H v d
  | [], _, _, _, _, e => by cases e
  | v :: vs, _, i, _, h, e => by
    cases h with
    | @cons _ _ d ds h1 h2 =>
      cases i with
      | zero => cases e; exact ⟨d, rfl, h1⟩
      | succ i => exact dps_get (i := i) h2 e
theorem bet_int {n a b : Int} : betD (.int n) a b = (decide (a ≤ n) && decide (n ≤ b)) := rfl
theorem bet_not {a b : Int} (h : (isIntD d && !isBoolD d) = false) : betD d a b = false := by cases d <;> first | rfl | cases h
theorem bet_yes {a b : Int} (h : betD d a b = true) : ∃ n, d = .int n ∧ a ≤ n ∧ n ≤ b := by
  cases d <;> first | (rw [bet_int, Bool.and_eq_true, decide_eq_true_eq, decide_eq_true_eq] at h; exact ⟨_, rfl, h.1, h.2⟩) | cases h
theorem int_yes (h : (isIntD d && !isBoolD d) = true) : ∃ n, d = .int n := by cases d <;> first | exact ⟨_, rfl⟩ | cases h
theorem dp_int {n : Int} (h : Dp K H v (.int n)) : v = .int n := by cases h; rfl
theorem dp_seq (h : Dp K H v d) (hs : isSeqD d = true) : ∃ (a : Addr) (xs : List V) (ds : List PyData), v = .ref a ∧ (SqL K H a xs ∨ SqT K H a xs) ∧ DpAll K H xs ds ∧ (d = .list ds ∨ d = .tuple ds) := by
  cases h with
  | lst h ha => exact ⟨_, _, _, rfl, .inl h, ha, .inl rfl⟩
  | tup h ha => exact ⟨_, _, _, rfl, .inr h, ha, .inr rfl⟩
  | _ => cases hs
theorem dp_tup (h : Dp K H v d) (hs : isTupD d = true) : ∃ (a : Addr) (xs : List V) (ds : List PyData), v = .ref a ∧ SqT K H a xs ∧ DpAll K H xs ds ∧ d = .tuple ds := by
  cases h with
  | tup h ha => exact ⟨_, _, _, rfl, h, ha, rfl⟩
  | _ => cases hs
end
/-! ### own methods, called -/
section
variable {X : Cx} {CX : CXT} {m : Str} {k : Nat} {ps : List Str} {sp : Sp} {e o : Expr} {es : List Expr} {t : TA} {ta : TE} {pos apos : Pos} {C : Addr}
theorem pe_ownM0 {pl : Sem Bool} (O : OwnM X.prog X.w X.K X.mg X.base CX C m k ps sp) (he : PE X o ta) (c : Cls X.K C) (hr : Room k X.A) (hx : Passes CX X E0)
    (ht : eval (.Call (.Attribute o m apos) [] [] pos) X.env = (do
      let ov ← eval o X.env
      standAt apos.atName
      let (f, first) ← holding [ov] (getMethod ov m pl)
      callWith pos f first (backTo pos (starEach [] X.env)) (backToKw pos (keywordEach [] X.env))) := by rfl) :
    PE X (.Call (.Attribute o m apos) [] [] pos) (tMeth C m sp [] E0 ta tNil) := by
  obtain ⟨f, fd, F, M, _, hb⟩ := O.ex
  exact pe_meth0 he c M F hr hb .nil hx ht
theorem pe_ownM {pl : Sem Bool} (O : OwnM X.prog X.w X.K X.mg X.base CX C m k ps sp) (he : PE X o ta) (c : Cls X.K C) (hr : Room k X.A) (hx : Passes CX X E0) (ha : PA X (e :: es) t)
    (hst : starEach (e :: es) X.env = (false, eval e X.env) :: starEach es X.env := by rfl) (hpl : (backTo pos (starEach es X.env)).any (·.1) = false := by rfl)
    (ht : eval (.Call (.Attribute o m apos) (e :: es) [] pos) X.env = (do
      let ov ← eval o X.env
      standAt apos.atName
      let (f, first) ← holding [ov] (getMethod ov m pl)
      callWith pos f first (backTo pos (starEach (e :: es) X.env)) (backToKw pos (keywordEach [] X.env))) := by rfl) :
    PE X (.Call (.Attribute o m apos) (e :: es) [] pos) (tMeth C m sp [] E0 ta t) := by
  obtain ⟨f, fd, F, M, _, hb⟩ := O.ex
  exact pe_meth he c M F hr hb .nil hx ha hst hpl ht
end
end L2

set_option Elab.async false
set_option maxRecDepth 100000
set_option maxHeartbeats 4000000
/-! defs that are handed the error that the suite holds; classes made with defaults -/
namespace L2
open PySem PySem.Spec PyProof.Rows
section
variable {X : Cx}
/-- isinstance(e, c), e the held error, anywhere that it is pinned -/
theorem call_isEP {a D : Addr} {cls : Value} {d : Option Addr} {oe : Obj} (hpn : (a, oe) ∈ X.pn) (C : ExcC X.K D) (hz : Zc cls d oe) (hf : ∃ vs, oe.data = .fields vs) : CallR X (.builtin "isinstance") (rIsED X.K D a cls d) := by
  intro pins s σ H xs us Q I r h
  obtain ⟨ec0, hdd, c, cv, b, rfl, hcv, e, q⟩ := h
  subst ec0
  cases r with
  | cons rx rr =>
    cases rr with
    | cons rt rr =>
      cases rr
      cases rx
      have ec := hcv _ rt
      subst ec
      obtain ⟨hget, _⟩ := I.pin (a, oe) (List.mem_append.mpr (.inl hpn))
      obtain ⟨vs, hv⟩ := hf
      have J : ∃ od, PySem.W.InstAt s.heap a oe D od := by
        obtain ⟨oc, od, oda, osl⟩ := oe
        obtain ⟨h1, h2⟩ := hz
        dsimp only at h1 h2 hv
        subst h1 h2 hv
        cases od with
        | none => exact ⟨none, hget, rfl, rfl, trivial⟩
        | some dd =>
          obtain ⟨fs, hfs⟩ := hdd dd rfl
          obtain ⟨mA, hns, _⟩ := (show ObjOk X.prog X.w H s.heap dd (.xd fs) from I.hok dd _ hfs)
          obtain ⟨od, ho, _⟩ := lookIn_ns hns
          exact ⟨some od, hget, rfl, rfl, ho⟩
      exact PySem.W.kia_one (PySem.W.kitx_excD C) I.kIn J e (fun z => nomatch z) fun tk => ⟨.bl b, H, I.kept (t' := tk) fun _ _ z => z, rfl, q⟩
/-- e.f of it -/
theorem pe_xfP {a C : Addr} {oe : Obj} {cls : Value} {d : Option Addr} {e : Expr} {te : TE} {pos : Pos} {n : Str} (hpn : (a, oe) ∈ X.pn) (T : XfC X.K C) (hno : PySem.W.findIn X.K (.ref C) n = some none)
    (hz : Zc cls d oe) (hf : ∃ vs, oe.data = .fields vs) (he : PE X e te) (hb : attributeBase e n X.env (eval e X.env) = eval e X.env := by rfl) :
    PE X (.Attribute e n pos) (tXf a cls d C n te) := by
  refine ⟨fun pins s σ H Q I h => attr_of hb (thn (he.run pins s σ H _ I h) fun u s1 hh => ?_)⟩
  obtain ⟨x, H1, I1, rx, ex, ec, dd, fs, v, ed, ea, l, q⟩ := hh
  subst ex ec ed
  obtain rfl : u = Value.ref a := rx
  obtain ⟨hget, _⟩ := I1.pin (a, oe) (List.mem_append.mpr (.inl hpn))
  obtain ⟨vs, hv⟩ := hf
  obtain ⟨mA, hns, hr⟩ := (show ObjOk X.prog X.w H1 s1.heap dd (.xd fs) from I1.hok dd _ ea)
  obtain ⟨od, ho, hl⟩ := lookIn_ns hns
  obtain ⟨uu, hu, ru⟩ := RelO.some_of (v := v) (o := mA n) (by rw [← l]; exact hr n)
  have ncls : PySem.W.notCls oe = true := by
    unfold PySem.W.notCls
    rw [hv] <;> rfl
  have J : PySem.W.InstAt s1.heap a oe C (some od) := ⟨hget, hz.1, ncls, by rw [hz.2]; exact ho⟩
  have fo := PySem.W.findObj_own T.hdC hno (od := od) rfl (by rw [hl, hu])
  exact HandSPX.exc_get I1.kIn J T.ga T.gg T.exC fo (handed_of ru) ⟨v, H1, I1.tok _, ru, q⟩
end
end L2
namespace L2H
open PySem PySem.Spec PyProof.Rows L2 HotX
/-- such a def: its promise speaks of the held error, too -/
structure FnE (P : Program) (w : World) (K : PySem.W.Frag) (mg : Str → Option Value) (base : Heap) (CX : CXT) (k : Nat) (f : Addr) (fd : FuncData) (ps : List Str) (sp : Addr × Obj → Sp) : Prop where
  len : ∀ p vs H Q E, sp p vs H Q E → vs.length = ps.length
  run : ∀ (p : Addr × Obj) (AA : Around) (outer : List Env) (sh : Shared) (H : Hp) (args : Args) (us : List Value) (vs : List V) (Q : VK) (E : XK), RoomH k AA → PinOk outer H sh p → Env0 P w K mg base AA outer sh H →
    BindsTo sh fd args (ps.zip us) → Vals vs us → sp p vs H Q E → codeAny (model P w) AA (.call (.ref f) args) (CR CX outer P w H sh Q E) sh
section
variable {CX : CXT} {P : Program} {w : World} {K : PySem.W.Frag} {mg : Str → Option Value} {base : Heap} {k : Nat} {f : Addr} {fd : FuncData} {x qual : Str} {st : Stmt} {N ps : List Str} {sp : Addr × Obj → Sp}
theorem fnE_of (F : Fun K x qual st f fd) (S : FnScope N ps (defScope st)) (len : ∀ p vs H Q E, sp p vs H Q E → vs.length = ps.length)
    (hbody : ∀ (p : Addr × Obj) (cdv : Value) (AA : Around) (outer : List Env) (sh : Shared) (H : Hp) (vs : List V) (Q : VK) (E : XK), RoomH k (AA.deeper (envOfC qual (defScope st) sh.heap.objs.size f cdv)) → sp p vs H Q E →
      ∃ t, PSs (cxH CX P w K mg base N qual (defScope st) f cdv AA outer sh H E p) (defBody st) t ∧ t { nx := fun _ H' => Q .non H', rt := Q } (L2.start N vs) H) : FnE P w K mg base CX (k + 1) f fd ps sp := by
  obtain ⟨oc, od, kV, doc, pm, an, cdv, ct, osl, rfl, lk, hcd⟩ := F.ex
  refine ⟨len, fun p AA outer sh H args us vs Q E hr hpin e0 hb r hsp => ?_⟩
  have hl := len _ _ _ _ _ hsp
  have KX : K.In sh.heap := e0.mod.kin.keeps fun b o e => (e0.bs b o e).1
  have lim : sh.heap.NoLimit := e0.mod.nolimit.keeps fun b o e => (e0.bs b o e).1
  have binds : ∀ y ∈ ps.zip us, (defScope st).names.lookup y.1 = some .local ∨ ((defScope st).names.lookup y.1 = some .cell ∧ ((cellsFrom (sh.heap.objs.size + 1) (defScope st).names []).lookup y.1).isSome = true) := by
    rintro ⟨n, v⟩ hy
    rcases S.par n (List.of_mem_zip hy).1 with q | q
    · exact .inl q
    · exact .inr ⟨q, PySem.W.cellsFrom_some _ _ _ (.inl q)⟩
  refine codeAny_call_function hr.depth (KX _ _ lk) rfl S.co S.gen rfl (PySem.W.codeRec_of KX hcd) (hb _ _ _ _ ?_)
  refine wpAny_newFunctionEnv_cells S.kind binds fun env he s1 xx => ?_
  subst he
  refine ⟨lim.keeps xx.toInCall.keep, codeAny_func ?_⟩
  obtain ⟨t, ht, hq⟩ := hbody p cdv AA outer sh H vs Q E (hr.deeper _) hsp
  have I := inv_startH (CX := CX) (E := E) S hpin e0 hl r xx
  refine wpAny_mono (ht.run [] s1 (L2.start N vs) H _ I hq) (fun fl s' hs => ?_) fun _ _ hs => hs
  cases fl with
  | ret u =>
    obtain ⟨v, σ', H', J, rv, q⟩ := hs
    exact ⟨v, H', J.os, J.bare, J.base, J.hok, rv, q⟩
  | next =>
    obtain ⟨σ', H', J, q⟩ := hs
    exact ⟨V.non, H', J.os, J.bare, J.base, J.hok, rfl, q⟩
  | brk =>
    obtain ⟨_, _, _, q⟩ := hs
    exact q.elim
  | cont =>
    obtain ⟨_, _, _, q⟩ := hs
    exact q.elim
end
section
variable {X : Cx} {CX : CXT} {k : Nat} {f : Addr} {fd : FuncData} {ps : List Str} {sp : Addr × Obj → Sp} {x : Str} {q pos : Pos} {e : Expr} {es : List Expr} {t : TA} {p : Addr × Obj}
/-- f(e, ..) in the suite that holds p -/
theorem pe_callE (F : FnE X.prog X.w X.K X.mg X.base CX k f fd ps sp) (hr : RoomH k X.A) (hp : p ∈ X.pn) (hg : Gl X x) (hm : X.mg x = some (.ref f)) (hk : PySem.W.keepIn X.K (.ref f) = true) (hb : Binds X.K fd ps []) (hx : Passes CX X E0)
    (ha : PA X (e :: es) t) (hdb : (x == ("__debug__" : Str)) = false := by decide) (he : starEach (e :: es) X.env = (false, eval e X.env) :: starEach es X.env := by rfl) (hpl : (backTo pos (starEach es X.env)).any (·.1) = false := by rfl) :
    PE X (.Call (.Name x q) (e :: es) [] pos) (tCall (sp p) [] E0 t) := by
  refine ⟨fun pins s σ H Q I h => wpAny_Call_Name_kw (ld_glob I hg hm ?_ hdb)⟩
  refine PySem.W.callWith_K (h₀ := X.base) I.ok.mod.kin hk (thn (ha.run pos pins s σ H _ I h) fun us s1 ⟨vs, H1, I1, r, hsp⟩ => ⟨I1.kIn, ?_⟩) he hpl
  have hsp : sp p vs H1 Q E0 := by
    have z : sp p (vs ++ []) H1 Q E0 := hsp
    rwa [List.append_nil] at z
  have hl : us.length = ps.length := by
    rw [← r.length]
    exact F.len _ _ _ _ _ hsp
  have bd := hb s1 us I1.kIn (by rw [List.append_nil]; exact hl)
  rw [List.append_nil] at bd
  have P1 := I1.pin p (List.mem_append.mpr (.inl hp))
  have hpin : PinOk X.stack H1 s1 p := ⟨P1.1, P1.2.1, fun hm => (List.mem_cons.mp (I1.stkSub p.1 hm)).elim P1.2.2.1 P1.2.2.2.1, P1.2.2.2.2⟩
  refine wpAny_call (codeAny_mono (F.run p X.A X.stack s1 H1 ⟨us, []⟩ us vs Q E0 hr hpin I1.env0 bd r hsp) fun rr s' hq => ?_)
  match rr, hq with
  | .error ee, hq => exact hx pins σ H1 s1 ee s' I1 hq
  | .ok (.ret u), hq => exact I1.after hq
  | .ok .next, hq => exact hq.elim
  | .ok .brk, hq => exact hq.elim
  | .ok .cont, hq => exact hq.elim
end
end L2H
namespace L2
open PySem PySem.Spec PyProof.Rows
/-- a class of the top whose __init__ has defaults, dvs those that fill up -/
structure OwnCD (P : Program) (w : World) (K : PySem.W.Frag) (mg : Str → Option Value) (base : Heap) (CX : CXT) (x : Str) (C : Addr) (k : Nat) (ps : List Str) (sp : Sp) (dvs : List V) : Prop where
  ex : ∃ (f : Addr) (fd : FuncData) (ds : List Value), FnOk P w K mg base CX k f fd ps sp ∧ Mk K C f ∧ mg x = some (.ref C) ∧ Binds K fd ps ds ∧ Vals dvs ds
section
variable {X : Cx} {CX : CXT} {x : Str} {k : Nat} {ps : List Str} {sp : Sp} {e : Expr} {es : List Expr} {t : TA} {p pos : Pos} {C : Addr} {dvs : List V}
theorem pe_newD (O : OwnCD X.prog X.w X.K X.mg X.base CX x C k ps sp dvs) (hr : Room (k + 1) X.A) (hx : Passes CX X E0) (ha : PA X (e :: es) t) (hg : Gl X x := by rfl) (hdb : (x == ("__debug__" : Str)) = false := by decide)
    (he : starEach (e :: es) X.env = (false, eval e X.env) :: starEach es X.env := by rfl) (hpl : (backTo pos (starEach es X.env)).any (·.1) = false := by rfl) : PE X (.Call (.Name x p) (e :: es) [] pos) (tMake C sp dvs E0 t) := by
  obtain ⟨f, fd, ds, F, M, hm, hb, hv⟩ := O.ex
  exact pe_make M F hr hg hm hb hv hx ha hdb he hpl
end
end L2

set_option Elab.async false
set_option maxRecDepth 100000
set_option maxHeartbeats 4000000
/-! a op b op c op d -/
namespace L2
open PySem PySem.Spec PyProof.Rows
def tCh3 (r r' r2 : R2) (ta tb tc td : TE) : TE := fun σ H Q => ta σ H fun x H1 => tb σ H1 fun y H2 => r x y H2 fun z H3 => ∃ k, z = .bl k ∧
  (if k = true then tc σ H3 fun u H4 => r' y u H4 fun z' H5 => ∃ k', z' = .bl k' ∧ (if k' = true then td σ H5 fun v H6 => r2 u v H6 Q else Q (.bl false) H5) else Q (.bl false) H3)
section
variable {X : Cx} {a b c d : Expr} {pos : Pos} {ta tb tc td : TE} {op op' op2 : CmpOp} {r r' r2 : R2}
theorem pe_chain3 (ho : OpR X (compareOp op) r) (ho' : OpR X (compareOp op') r') (ho2 : OpR X (compareOp op2) r2) (ha : PE X a ta) (hb : PE X b tb) (hc : PE X c tc) (hd : PE X d td)
    (hm : lastMarks [op, op', op2] [b, c, d] = false := by with_unfolding_all rfl) : PE X (.Compare a [op, op', op2] [b, c, d] pos) (tCh3 r r' r2 ta tb tc td) := by
  refine ⟨fun pins s σ H Q I h => ?_⟩
  refine Compare_chain (thn (ha.run pins s σ H _ I h) fun v s1 ⟨x, H1, I1, r1, q1⟩ => chain_link (thn (hb.run pins s1 σ H1 _ I1 q1) fun u s2 ⟨y, H2, I2, r2', q2⟩ =>
    thn (ho pins s2 σ H2 x y v u _ I2 r1 r2' q2) fun e s3 ⟨z, H3, I3, r3, k, ez, q3⟩ => ?_)) hm
  subst ez
  cases r3
  refine wpAny_truthy_bool ?_
  cases k with
  | false => exact ite_ff ⟨.bl false, H3, I3, rfl, q3⟩
  | true =>
    refine ite_tt (chain_link (thn (hc.run pins s3 σ H3 _ I3 q3) fun u2 s4 ⟨z4, H4, I4, r4, q4⟩ => thn (ho' pins s4 σ H4 y z4 u u2 _ I4 r2' r4 q4) fun e5 s5 ⟨z5, H5, I5, r5, k5, ez5, q5⟩ => ?_))
    subst ez5
    cases r5
    refine wpAny_truthy_bool ?_
    cases k5 with
    | false => exact ite_ff ⟨.bl false, H5, I5, rfl, q5⟩
    | true => exact ite_tt (chain_last (thn (hd.run pins s5 σ H5 _ I5 q5) fun u6 s6 ⟨z6, H6, I6, r6, q6⟩ => ho2 pins s6 σ H6 z4 z6 u2 u6 Q I6 r4 r6 q6))
theorem pt_chain3 (ho : OpR X (compareOp op) r) (ho' : OpR X (compareOp op') r') (ho2 : OpR X (compareOp op2) r2) (ha : PE X a ta) (hb : PE X b tb) (hc : PE X c tc) (hd : PE X d td)
    (hm : lastMarks [op, op', op2] [b, c, d] = false := by with_unfolding_all rfl) : PT X (.Compare a [op, op', op2] [b, c, d] pos) (tTest (tCh3 r r' r2 ta tb tc td)) := by
  refine ⟨fun pins s σ H Q I h => ?_⟩
  refine isTrue_chain (thn (ha.run pins s σ H _ I h) fun v s1 ⟨x, H1, I1, r1, q1⟩ => test_link (thn (hb.run pins s1 σ H1 _ I1 q1) fun u s2 ⟨y, H2, I2, r2', q2⟩ =>
    thn (ho pins s2 σ H2 x y v u _ I2 r1 r2' q2) fun e s3 ⟨z, H3, I3, r3, k, ez, q3⟩ => ?_)) hm
  subst ez
  cases r3
  refine wpAny_truthy_bool ?_
  cases k with
  | false =>
    obtain ⟨k', e', q'⟩ := q3
    cases e'
    exact ite_ff ⟨H3, I3, q'⟩
  | true =>
    refine ite_tt (test_link (thn (hc.run pins s3 σ H3 _ I3 q3) fun u2 s4 ⟨z4, H4, I4, r4, q4⟩ => thn (ho' pins s4 σ H4 y z4 u u2 _ I4 r2' r4 q4) fun e5 s5 ⟨z5, H5, I5, r5, k5, ez5, q5⟩ => ?_))
    subst ez5
    cases r5
    refine wpAny_truthy_bool ?_
    cases k5 with
    | false =>
      obtain ⟨k', e', q'⟩ := q5
      cases e'
      exact ite_ff ⟨H5, I5, q'⟩
    | true =>
      refine ite_tt (test_last (thn (hd.run pins s5 σ H5 _ I5 q5) fun u6 s6 ⟨z6, H6, I6, r6, q6⟩ => thn (ho2 pins s6 σ H6 z4 z6 u2 u6 _ I6 r4 r6 q6) fun e7 s7 ⟨z7, H7, I7, r7, k7, ez7, q7⟩ => ?_))
      subst ez7
      cases r7
      exact wpAny_truthy_bool ⟨H7, I7, q7⟩
end
end L2
namespace L2
open PySem PySem.Spec PyProof.Rows
def numV : V → Bool | .int _ => true | _ => false
section
variable {K : PySem.W.Frag} {σ : St} {H : Hp} {p : Addr} {xs : List V} {te : TE} {tt : TT} {j : Nat} {vs : List Nat} {Q : VK} {v : V} {d : PyData}
theorem num_dp (h : Dp K H v d) : (isIntD d && !isBoolD d) = numV v := by cases h <;> rfl
theorem non_dp (h : Dp K H v d) : decide (v = .non) = isNoneD d := by cases h <;> simp [isNoneD]
/-- [f(x) for x in xs if b(x)] over a list or a tuple wherever it stands, what is tested and made only adding to the heap -/
theorem lc_sqG {Qd : Addr → Hp → Prop} {f : V → V} {b : V → Bool} (hx : SqL K H p xs ∨ SqT K H p xs) (hz : xs.length < sizeLine) (hw : ∀ x, wipe ((wipe σ vs).set j (some x)) vs = wipe σ vs)
    (ht : ∀ x ∈ xs, ∀ H', Ext H H' → ∀ Q : Bool → Hp → Prop, (∀ H'', Ext H' H'' → Q (b x) H'') → tt ((wipe σ vs).set j (some x)) H' Q)
    (he : ∀ x ∈ xs, b x = true → ∀ H', Ext H H' → ∀ Q : VK, (∀ H'', Ext H' H'' → Q (f x) H'') → te ((wipe σ vs).set j (some x)) H' Q)
    (q : ∀ D H', H D = none → Ext H H' → H' D = some (.lst ((xs.filter b).map f)) → Qd D H') :
    ((∃ xs, SqL K H p xs) ∧ (fun J H1 => ∀ D, H1 D = none → ∃ W : Nat → Nat → Hp → Prop, (∃ m, W 0 m (upd H1 D (.lst []))) ∧ ∀ i m H, W i m H →
      (J.stop i H ∧ Qd D H) ∨ (J.go i H ∧ ∃ Nx : Hp → Prop, (∀ H', Nx H' → ∃ m', m' < m ∧ W (i + 1) m' H') ∧ ∀ x H', J.yld i H x H' → gName j x (wipe σ vs) H' fun σ2 H2 => wipe σ2 vs = wipe σ vs ∧ tt σ2 H2 fun b H3 =>
        if b = true then te σ2 H3 fun y H4 => ∃ acc, H4 D = some (.lst acc) ∧ acc.length < sizeLine ∧ Nx (upd H4 D (.lst (acc ++ [y]))) else Nx H3)) (Itl K p) H) ∨
    ((∃ xs, SqT K H p xs) ∧ (fun J H1 => ∀ D, H1 D = none → ∃ W : Nat → Nat → Hp → Prop, (∃ m, W 0 m (upd H1 D (.lst []))) ∧ ∀ i m H, W i m H →
      (J.stop i H ∧ Qd D H) ∨ (J.go i H ∧ ∃ Nx : Hp → Prop, (∀ H', Nx H' → ∃ m', m' < m ∧ W (i + 1) m' H') ∧ ∀ x H', J.yld i H x H' → gName j x (wipe σ vs) H' fun σ2 H2 => wipe σ2 vs = wipe σ vs ∧ tt σ2 H2 fun b H3 =>
        if b = true then te σ2 H3 fun y H4 => ∃ acc, H4 D = some (.lst acc) ∧ acc.length < sizeLine ∧ Nx (upd H4 D (.lst (acc ++ [y]))) else Nx H3)) (Itt K p) H) := by
  have turn : ∀ (D : Addr), H D = none → ∀ i x H', xs[i]? = some x → (Ext H H' ∧ H' D = some (.lst (((xs.take i).filter b).map f))) → gName j x (wipe σ vs) H' fun σ2 H2 => wipe σ2 vs = wipe σ vs ∧ tt σ2 H2 fun b' H3 =>
      if b' = true then te σ2 H3 fun y H4 => ∃ acc, H4 D = some (.lst acc) ∧ acc.length < sizeLine ∧ (Ext H (upd H4 D (.lst (acc ++ [y]))) ∧ upd H4 D (.lst (acc ++ [y])) D = some (.lst (((xs.take (i + 1)).filter b).map f))) else (Ext H H3 ∧ H3 D = some (.lst (((xs.take (i + 1)).filter b).map f))) := by
    intro D hD i x H' hi pv
    obtain ⟨e, hl⟩ := pv
    have hm : x ∈ xs := List.mem_of_getElem? hi
    refine ⟨hw x, ht x hm H' e _ fun H3 e3 => ?_⟩
    have hl3 : H3 D = some (.lst (((xs.take i).filter b).map f)) := e3 _ _ hl
    cases hb : b x with
    | true =>
      refine iteT (he x hm hb H3 (e.trans e3) _ fun H4 e4 => ⟨_, e4 _ _ hl3, ?_, ext_mut ((e.trans e3).trans e4) hD, ?_⟩)
      · rw [List.length_map]
        refine Nat.lt_of_le_of_lt (Nat.le_trans (List.length_filter_le _ _) ?_) hz
        exact List.length_take_le' _ _
      · rw [upd_same, take_snoc hi, List.filter_append, List.map_append]
        simp [hb]
    | false =>
      refine iteF ⟨e.trans e3, ?_⟩
      rw [hl3, take_snoc hi, List.filter_append, List.map_append]
      simp [hb]
  have fin : ∀ D, H D = none → ∀ H', (Ext H H' ∧ H' D = some (.lst (((xs.take xs.length).filter b).map f))) → Qd D H' := fun D hD H' pv => by
    rw [List.take_length] at pv
    exact q D H' hD pv.1 pv.2
  rcases hx with hx | hx
  · refine .inl ⟨⟨xs, hx⟩, fun D hD => lc_list (xs := xs) (fun i H' => Ext H H' ∧ H' D = some (.lst (((xs.take i).filter b).map f))) ⟨Ext.upd hD, upd_same⟩ (fun i H' _ pv => hx.ext pv.1) (fun i x H' hi pv => turn D hD i x H' hi pv) (fun H' pv => fin D hD H' pv)⟩
  · refine .inr ⟨⟨xs, hx⟩, fun D hD => lc_tup (xs := xs) (fun i H' => Ext H H' ∧ H' D = some (.lst (((xs.take i).filter b).map f))) ⟨Ext.upd hD, upd_same⟩ (fun i H' _ pv => hx.ext pv.1) (fun i x H' hi pv => turn D hD i x H' hi pv) (fun H' pv => fin D hD H' pv)⟩
end
end L2

set_option Elab.async false
set_option maxRecDepth 100000
set_option maxHeartbeats 4000000
namespace L2
open PySem PySem.Spec PyProof.Rows
section
variable {X : Cx} {m : Str} {k : Nat} {ps : List Str} {sp : Sp} {e o : Expr} {es : List Expr} {t : TA} {ta : TE} {pos apos : Pos} {C : Addr} {W : WX}
/-- o.m(e, ..) that may raise; W is wished for what it raises -/
theorem pe_ownMS {pl : Sem Bool} (O : OwnM X.prog X.w X.K X.mg X.base (L2.CX X.prog X.w) C m k ps sp) (he : PE X o ta) (c : Cls X.K C) (hr : Room k X.A) (tk : Takes X W) (ha : PA X (e :: es) t)
    (hst : starEach (e :: es) X.env = (false, eval e X.env) :: starEach es X.env := by rfl) (hpl : (backTo pos (starEach es X.env)).any (·.1) = false := by rfl)
    (ht : eval (.Call (.Attribute o m apos) (e :: es) [] pos) X.env = (do
      let ov ← eval o X.env
      standAt apos.atName
      let (f, first) ← holding [ov] (getMethod ov m pl)
      callWith pos f first (backTo pos (starEach (e :: es) X.env)) (backToKw pos (keywordEach [] X.env))) := by rfl) :
    PE X (.Call (.Attribute o m apos) (e :: es) [] pos) (tMethSD C m sp [] (WE W) ta t) := by
  obtain ⟨f, fd, F, M, _, hb⟩ := O.ex
  exact pe_methSD he c M F hr hb .nil (fun σ => passAt tk σ) ha hst hpl ht
theorem PE.imp {ex : Expr} {t1 t2 : TE} (h : PE X ex t1) (i : ∀ σ H Q, t2 σ H Q → t1 σ H Q) : PE X ex t2 := ⟨fun pins s σ H Q I z => h.run pins s σ H Q I (i σ H Q z)⟩
end
end L2

set_option Elab.async false
set_option linter.all false
set_option maxRecDepth 100000
set_option maxHeartbeats 4000000
/-! tuples of own objects, compared by their own ==, whichever the answer -/
namespace GQ
open PySem PySem.SeqAt
open AutoSeq1 (wpAny_loadPart')
open MeetsSeq MeetsSeq2 MeetsSeq3 SeqRoads2
section
variable {prog : Program} {w : World} {A : Around} {R : Result → Shared → Prop}
/-- the places one by one: I goes on, J at the first two that differ -/
theorem tup_eqB (la lb : Addr) (xs ys : Array Value) (n n2 : Nat) (dd dd2 : Option Addr) (sl sl2 : Array (Option Value)) (hsz : xs.size = ys.size) (I : Nat → Shared → Prop) (J : Shared → Prop)
    (turn : ∀ i (h1 : i < xs.size) (h2 : i < ys.size) s, I i s → wpAny (model prog w) A.in1 (eqBool xs[i] ys[i]) (fun r s' => (r = true ∧ I (i + 1) s') ∨ (r = false ∧ J s')) (fun e s' => R (.error e) s') s)
    (finT : ∀ s, I xs.size s → R (.ok (.ret (.bool true))) s) (finF : ∀ s, J s → R (.ok (.ret (.bool false))) s) {s : Shared}
    (hla : s.heap.get? la = some { cls := .type "tuple", dict := dd, data := .seq xs n, slots := sl }) (hlb : s.heap.get? lb = some { cls := .type "tuple", dict := dd2, data := .seq ys n2, slots := sl2 }) (h : I 0 s) :
    wpAny (model prog w) A.in1 (Builtin.«tuple.__eq__» ⟨[.ref la, .ref lb], []⟩) (FinOf prog w A R) (fun e s' => R (.error e) s') s := by
  have f2 := AutoSeq1.sub_tuple_tuple
  have hZ : (xs.toList.zip ys.toList).length = xs.size := by simp [hsz]
  have h0 := h
  obtain ⟨hp, g, d, tk, os⟩ := s
  wp_walk using wpAny_loadPart' hla, wpAny_loadPart' hlb, wpAny_forIn_list _ (fun rest b s' => b.1 = none ∧ ∃ i, rest = (xs.toList.zip ys.toList).drop i ∧ i ≤ xs.size ∧ I i s') _
  case turn =>
    rintro ⟨y, x⟩ rest b s' ⟨hb', i, hz, hi, hI⟩
    have hlt : i < (xs.toList.zip ys.toList).length := by
      rcases Nat.lt_or_ge i (xs.toList.zip ys.toList).length with h' | h'
      · exact h'
      · rw [List.drop_of_length_le h'] at hz
        cases hz
    have h1 : i < xs.size := hZ ▸ hlt
    have h2 : i < ys.size := hsz ▸ h1
    rw [List.drop_eq_getElem_cons hlt] at hz
    injection hz with hyx hrest
    have hy : y = xs[i] := by
      have q := congrArg Prod.fst hyx
      simpa using q
    have hx : x = ys[i] := by
      have q := congrArg Prod.snd hyx
      simpa using q
    subst hy hx
    refine wpAny_bind (wpAny_mono (turn i h1 h2 s' hI) (fun r s2 q2 => ?_) fun _ _ x => x)
    rcases q2 with ⟨hr, q2⟩ | ⟨hr, q2⟩
    · subst hr
      wp_walk
      exact ⟨rfl, i + 1, hrest, h1, q2⟩
    · subst hr
      have hR : R (.ok (.ret (.bool false))) s2 := finF s2 q2
      wp_walk
      exact hR
  case fin =>
    rintro ⟨b1, b2⟩ s' ⟨hb', i, hz, hi, hI⟩
    simp only at hb'
    subst hb'
    have hge : xs.size ≤ i := by
      rcases Nat.lt_or_ge i (xs.toList.zip ys.toList).length with h' | h'
      · rw [List.drop_eq_getElem_cons h'] at hz
        cases hz
      · exact hZ ▸ h'
    have hi' : i = xs.size := by omega
    have hR : R (.ok (.ret (.bool true))) s' := finT s' (hi' ▸ hI)
    wp_walk
    simpa [Builtin.Tuple.tupleCompareSizes, hsz] using hR
  case h =>
    exact ⟨rfl, 0, rfl, Nat.zero_le _, h0⟩
/-- the same for != -/
theorem tup_neB (la lb : Addr) (xs ys : Array Value) (n n2 : Nat) (dd dd2 : Option Addr) (sl sl2 : Array (Option Value)) (hsz : xs.size = ys.size) (I : Nat → Shared → Prop) (J : Shared → Prop)
    (turn : ∀ i (h1 : i < xs.size) (h2 : i < ys.size) s, I i s → wpAny (model prog w) A.in1 (eqBool xs[i] ys[i]) (fun r s' => (r = true ∧ I (i + 1) s') ∨ (r = false ∧ J s')) (fun e s' => R (.error e) s') s)
    (finT : ∀ s, I xs.size s → R (.ok (.ret (.bool false))) s) (finF : ∀ s, J s → R (.ok (.ret (.bool true))) s) {s : Shared}
    (hla : s.heap.get? la = some { cls := .type "tuple", dict := dd, data := .seq xs n, slots := sl }) (hlb : s.heap.get? lb = some { cls := .type "tuple", dict := dd2, data := .seq ys n2, slots := sl2 }) (h : I 0 s) :
    wpAny (model prog w) A.in1 (Builtin.«tuple.__ne__» ⟨[.ref la, .ref lb], []⟩) (FinOf prog w A R) (fun e s' => R (.error e) s') s := by
  have f2 := AutoSeq1.sub_tuple_tuple
  have hZ : (xs.toList.zip ys.toList).length = xs.size := by simp [hsz]
  have h0 := h
  obtain ⟨hp, g, d, tk, os⟩ := s
  wp_walk using wpAny_loadPart' hla, wpAny_loadPart' hlb, wpAny_forIn_list _ (fun rest b s' => b.1 = none ∧ ∃ i, rest = (xs.toList.zip ys.toList).drop i ∧ i ≤ xs.size ∧ I i s') _
  case turn =>
    rintro ⟨y, x⟩ rest b s' ⟨hb', i, hz, hi, hI⟩
    have hlt : i < (xs.toList.zip ys.toList).length := by
      rcases Nat.lt_or_ge i (xs.toList.zip ys.toList).length with h' | h'
      · exact h'
      · rw [List.drop_of_length_le h'] at hz
        cases hz
    have h1 : i < xs.size := hZ ▸ hlt
    have h2 : i < ys.size := hsz ▸ h1
    rw [List.drop_eq_getElem_cons hlt] at hz
    injection hz with hyx hrest
    have hy : y = xs[i] := by
      have q := congrArg Prod.fst hyx
      simpa using q
    have hx : x = ys[i] := by
      have q := congrArg Prod.snd hyx
      simpa using q
    subst hy hx
    refine wpAny_bind (wpAny_mono (turn i h1 h2 s' hI) (fun r s2 q2 => ?_) fun _ _ x => x)
    rcases q2 with ⟨hr, q2⟩ | ⟨hr, q2⟩
    · subst hr
      wp_walk
      exact ⟨rfl, i + 1, hrest, h1, q2⟩
    · subst hr
      have hR : R (.ok (.ret (.bool true))) s2 := finF s2 q2
      wp_walk
      exact hR
  case fin =>
    rintro ⟨b1, b2⟩ s' ⟨hb', i, hz, hi, hI⟩
    simp only at hb'
    subst hb'
    have hge : xs.size ≤ i := by
      rcases Nat.lt_or_ge i (xs.toList.zip ys.toList).length with h' | h'
      · rw [List.drop_eq_getElem_cons h'] at hz
        cases hz
      · exact hZ ▸ h'
    have hi' : i = xs.size := by omega
    have hR : R (.ok (.ret (.bool false))) s' := finT s' (hi' ▸ hI)
    wp_walk
    simpa [Builtin.Tuple.tupleCompareSizes, bne, hsz] using hR
  case h =>
    exact ⟨rfl, 0, rfl, Nat.zero_le _, h0⟩
end
end GQ
namespace GQ
open PySem PySem.SeqAt
section
variable {prog : Program} {w : World} {A : Around} {E : Value → Shared → Prop} {s : Shared}
theorem rc_tupB {la lb : Addr} {xs ys : Array Value} {Q : Value → Shared → Prop} (hsz : xs.size = ys.size) (hu : A.units < cLine) (I : Nat → Shared → Prop) (J : Shared → Prop) (hla : s.heap.IsTuple la xs) (hlb : s.heap.IsTuple lb ys)
    (turn : ∀ i (h1 : i < xs.size) (h2 : i < ys.size) s, I i s → wpAny (model prog w) A.in1 (eqBool xs[i] ys[i]) (fun r s' => (r = true ∧ I (i + 1) s') ∨ (r = false ∧ J s')) E s)
    (finT : ∀ s, I xs.size s → Q (.bool true) s) (finF : ∀ s, J s → Q (.bool false) s) (h : I 0 s) : wpAny (model prog w) A (richCompare .Eq (.ref la) (.ref lb)) Q E s := by
  obtain ⟨⟨cls, dd, data, sl⟩, ho, hc, n, hd⟩ := id hla
  obtain ⟨⟨cls2, dd2, data2, sl2⟩, ho2, hc2, n2, hd2⟩ := id hlb
  simp only at hc hd hc2 hd2
  subst hc hd hc2 hd2
  refine wpAny_richCompare_same_room (op := .Eq) ⟨_, ho, rfl⟩ ⟨_, ho2, rfl⟩ F.slot_tuple_eq (call_here F.slot_tuple_eq ⟨_, ho, rfl⟩ F.entry_tuple_eq (F.args_tuple_eq_2 _ _) ?_) hu
  exact tup_eqB (R := wants (fun v s' => v ≠ .notImplemented ∧ Q v s') E) la lb xs ys n n2 dd dd2 sl sl2 hsz I J turn (fun s' q => ⟨(fun x => nomatch x), finT s' q⟩) (fun s' q => ⟨(fun x => nomatch x), finF s' q⟩) ho ho2 h
theorem rc_tupNB {la lb : Addr} {xs ys : Array Value} {Q : Value → Shared → Prop} (hsz : xs.size = ys.size) (hu : A.units < cLine) (I : Nat → Shared → Prop) (J : Shared → Prop) (hla : s.heap.IsTuple la xs) (hlb : s.heap.IsTuple lb ys)
    (turn : ∀ i (h1 : i < xs.size) (h2 : i < ys.size) s, I i s → wpAny (model prog w) A.in1 (eqBool xs[i] ys[i]) (fun r s' => (r = true ∧ I (i + 1) s') ∨ (r = false ∧ J s')) E s)
    (finT : ∀ s, I xs.size s → Q (.bool false) s) (finF : ∀ s, J s → Q (.bool true) s) (h : I 0 s) : wpAny (model prog w) A (richCompare .NotEq (.ref la) (.ref lb)) Q E s := by
  obtain ⟨⟨cls, dd, data, sl⟩, ho, hc, n, hd⟩ := id hla
  obtain ⟨⟨cls2, dd2, data2, sl2⟩, ho2, hc2, n2, hd2⟩ := id hlb
  simp only at hc hd hc2 hd2
  subst hc hd hc2 hd2
  refine wpAny_richCompare_same_room (op := .NotEq) ⟨_, ho, rfl⟩ ⟨_, ho2, rfl⟩ F.slot_tuple_ne (call_here F.slot_tuple_ne ⟨_, ho, rfl⟩ F.entry_tuple_ne (F.args_tuple_ne_2 _ _) ?_) hu
  exact tup_neB (R := wants (fun v s' => v ≠ .notImplemented ∧ Q v s') E) la lb xs ys n n2 dd dd2 sl sl2 hsz I J turn (fun s' q => ⟨(fun x => nomatch x), finT s' q⟩) (fun s' q => ⟨(fun x => nomatch x), finF s' q⟩) ho ho2 h
end
end GQ
namespace L2
open PySem PySem.Spec PyProof.Rows
/-- how two values compare, by the abstract heap -/
abbrev EqvB := V → V → Hp → Bool → Prop
def MonB (D : EqvB) : Prop := ∀ x y H H' k, Ext H H' → D x y H k → D x y H' k
def EqB (X : Cx) (n : Nat) (D : EqvB) : Prop :=
  ∀ (A : Around) (pins : List (Addr × Obj)) (s : Shared) (σ : St) (H : Hp) (x y : V) (u v : Value) (k : Bool), Sub X n A → Inv X pins σ H s → RelV x u → RelV y v → D x y H k →
    wpAny (model X.prog X.w) A (eqBool u v) (fun r s' => r = k ∧ ∃ H', Inv X pins σ H' s' ∧ Ext H H') X.xe s
def RcB (X : Cx) (n : Nat) (D : EqvB) : Prop :=
  ∀ (A : Around) (pins : List (Addr × Obj)) (s : Shared) (σ : St) (H : Hp) (x y : V) (u v : Value) (k : Bool), Sub X n A → Inv X pins σ H s → RelV x u → RelV y v → D x y H k →
    wpAny (model X.prog X.w) A (richCompare .Eq u v) (fun r s' => r = .bool k ∧ ∃ H', Inv X pins σ H' s' ∧ Ext H H') X.xe s
section
variable {X : Cx} {n : Nat} {D : EqvB}
/-- instances of the class at C -/
def DInsB (C : Addr) (R : Addr → Addr → Hp → Bool → Prop) : EqvB := fun x y H k => ∃ a b dx dy fs gs, x = .ref a ∧ y = .ref b ∧ H a = some (.ins C dx fs) ∧ H b = some (.ins C dy gs) ∧ R a b H k
def spEqB (R : Addr → Addr → Hp → Bool → Prop) : Sp := fun vs H Q _ => ∃ a b k, vs = [.ref a, .ref b] ∧ R a b H k ∧ ∀ H', Ext H H' → Q (.bl k) H'
theorem rcB_ins {CX : CXT} {C f : Addr} {fd : FuncData} {ps : List Str} {R : Addr → Addr → Hp → Bool → Prop} {E : XK} (F : FnOk X.prog X.w X.K X.mg X.base CX n f fd ps (spEqB R))
    (hs : PySem.W.findIn X.K (.ref C) "__eq__" = some (some (.ref f))) (hf : PySem.W.isFn X.K (.ref f) = true) (hb : Binds X.K fd ps []) (hx : Passes CX X E) : RcB X n (DInsB C R) := by
  intro A pins s σ H x y u v k sb I rx ry d
  obtain ⟨a, b, dx, dy, fs, gs, rfl, rfl, ha, hb', hr⟩ := d
  cases rx
  cases ry
  obtain ⟨mA, J, _⟩ := ins_get I.hok ha
  obtain ⟨mB, J', _⟩ := ins_get I.hok hb'
  obtain ⟨od, J, _⟩ := J.look
  obtain ⟨od', J', _⟩ := J'.look
  obtain ⟨m, hF⟩ := I.fr
  refine PySem.W.cmp_K (op := .Eq) (tb := .ref C) sb.room.units0 hF I.ok.mod.kin J J'.type (by simp [PySem.W.notFirst]) hs hf ?_
  have hsp : spEqB R [.ref a, .ref b] H (fun v H' => v = .bl k ∧ Ext H H') E := ⟨a, b, k, rfl, hr, fun H' e => ⟨rfl, e⟩⟩
  have e1 := I.env0
  have e0 : Env0 X.prog X.w X.K X.mg X.base A X.stack s H := ⟨by rw [sb.fr]; exact e1.frames, e1.mod, e1.bs, e1.bsz, e1.funs, e1.frf, e1.hok, e1.bare⟩
  have hl := F.len _ _ _ _ hsp
  have bd := hb s [.ref a, .ref b] I.kIn (by simpa using hl)
  have bd' : BindsTo s fd ⟨[.ref a, .ref b], []⟩ (ps.zip [.ref a, .ref b]) := by simpa using bd
  refine wpAny_call (codeAny_mono (F.run A X.stack s H ⟨[.ref a, .ref b], []⟩ [.ref a, .ref b] [.ref a, .ref b] _ E sb.room e0 bd' (.cons rfl (.cons rfl .nil)) hsp) fun r s' hq => ?_)
  match r, hq with
  | .error e, hq => exact hx pins σ H s e s' I hq
  | .ok (.ret z), hq =>
    obtain ⟨zv, H', I', rz, ez, ex⟩ := I.after hq
    subst ez
    cases rz
    exact ⟨rfl, H', I', ex⟩
  | .ok .next, hq => exact hq.elim
  | .ok .brk, hq => exact hq.elim
  | .ok .cont, hq => exact hq.elim
/-- within a tuple: the same object is equal to itself -/
theorem RcB.eqB (h : RcB X n D) (hr : ∀ x y H k, D x y H k → ∃ a b, x = .ref a ∧ y = .ref b ∧ (a = b → k = true)) : EqB X n D := by
  intro A pins s σ H x y u v k sb I rx ry d
  obtain ⟨a, b, rfl, rfl, hk⟩ := hr _ _ _ _ d
  cases rx
  cases ry
  by_cases hab : a = b
  · have hk' := hk hab
    subst hab hk'
    exact SeqAt.EqAt.same (A := A) (s := s) (.ref a) X.prog X.w X.xe _ ⟨rfl, H, I, Ext.rfl'⟩
  · refine GQ.eqBool_refG hab (wpAny_mono (h A pins s σ H (.ref a) (.ref b) _ _ k sb I rfl rfl d) (fun r s' q => ?_) fun _ _ x => x)
    obtain ⟨hr', q⟩ := q
    exact ⟨k, hr', rfl, q⟩
/-- tuples of one length, place by place; ks the answers -/
def DTupB (K : PySem.W.Frag) (D : EqvB) : EqvB := fun x y H k => ∃ (a b : Addr) (xs ys : List V) (ks : List Bool), x = .ref a ∧ y = .ref b ∧ SqT K H a xs ∧ SqT K H b ys ∧ xs.length = ys.length ∧ ks.length = xs.length ∧
  (∀ (i : Nat) x y c, xs[i]? = some x → ys[i]? = some y → ks[i]? = some c → D x y H c) ∧ k = ks.all id
theorem all_take {ks : List Bool} {i : Nat} (h : ∀ j, j < i → ks[j]? = some true) (hi : ks.length ≤ i) : ks.all id = true := by
  rw [List.all_eq_true]
  intro c hc
  obtain ⟨j, hj⟩ := List.mem_iff_getElem?.mp hc
  have hjl := (List.getElem?_eq_some_iff.mp hj).1
  have q := h j (Nat.lt_of_lt_of_le hjl hi)
  rw [hj] at q
  cases q
  rfl
theorem rcB_tup (hD : MonB D) (h : EqB X n D) : RcB X (n + 1) (DTupB X.K D) := by
  intro A pins s σ H x y u v k sb I rx ry d
  obtain ⟨a, b, xs, ys, ks, rfl, rfl, ha, hb, hlen, hks, hp, rfl⟩ := d
  cases rx
  cases ry
  obtain ⟨its, r, e, z⟩ := I.tuple ha
  obtain ⟨its2, r2, e2, z2⟩ := I.tuple hb
  have l1 := r.length
  have l2 := r2.length
  have hsz : its.toArray.size = its2.toArray.size := by rw [List.size_toArray, List.size_toArray, ← l1, ← l2]; exact hlen
  refine GQ.rc_tupB hsz sb.room.units0 (fun i s' => (∃ H', Inv X pins σ H' s' ∧ Ext H H') ∧ ∀ j, j < i → ks[j]? = some true) (fun s' => (∃ H', Inv X pins σ H' s' ∧ Ext H H') ∧ ks.all id = false) e e2 (fun i h1 h2 s' q => ?_) (fun s' q => ?_) (fun s' q => ?_) ⟨⟨H, I, Ext.rfl'⟩, fun j hj => absurd hj (Nat.not_lt_zero _)⟩
  · obtain ⟨⟨H1, I1, e1⟩, hk⟩ := q
    have h1' : i < its.length := by simpa using h1
    have h2' : i < its2.length := by simpa using h2
    have g1 : its[i]? = some its.toArray[i] := by rw [List.getElem?_eq_getElem h1'] <;> simp
    have g2 : its2[i]? = some its2.toArray[i] := by rw [List.getElem?_eq_getElem h2'] <;> simp
    have k1 : i < xs.length := by omega
    have k2 : i < ys.length := by omega
    have k3 : i < ks.length := by omega
    obtain ⟨uu, hu, ru⟩ := r.get (List.getElem?_eq_getElem k1)
    obtain ⟨vv, hv, rv⟩ := r2.get (List.getElem?_eq_getElem k2)
    rw [g1] at hu
    rw [g2] at hv
    rw [Option.some.inj hu, Option.some.inj hv]
    refine wpAny_mono (h A.in1 pins s' σ H1 _ _ uu vv ks[i] sb.in1 I1 ru rv (hD _ _ _ _ _ e1 (hp i _ _ _ (List.getElem?_eq_getElem k1) (List.getElem?_eq_getElem k2) (List.getElem?_eq_getElem k3)))) (fun rr s2 q2 => ?_) fun _ _ x => x
    obtain ⟨hr, H2, I2, e2'⟩ := q2
    have hki : ks[i]? = some rr := by rw [hr]; exact List.getElem?_eq_getElem k3
    cases rr with
    | true =>
      refine .inl ⟨rfl, ⟨H2, I2, e1.trans e2'⟩, fun j hj => ?_⟩
      rcases Nat.lt_succ_iff_lt_or_eq.mp hj with hj | rfl
      · exact hk j hj
      · exact hki
    | false =>
      refine .inr ⟨rfl, ⟨H2, I2, e1.trans e2'⟩, ?_⟩
      rw [List.all_eq_false]
      exact ⟨false, List.mem_of_getElem? hki, by decide⟩
  · obtain ⟨q1, hk⟩ := q
    exact ⟨by rw [all_take hk (by simp; omega)], q1⟩
  · obtain ⟨q1, hk⟩ := q
    exact ⟨by rw [hk], q1⟩
/-- the same for !=, told by what == would say -/
def RcNB (X : Cx) (n : Nat) (D : EqvB) : Prop :=
  ∀ (A : Around) (pins : List (Addr × Obj)) (s : Shared) (σ : St) (H : Hp) (x y : V) (u v : Value) (k : Bool), Sub X n A → Inv X pins σ H s → RelV x u → RelV y v → D x y H k →
    wpAny (model X.prog X.w) A (richCompare .NotEq u v) (fun r s' => r = .bool (!k) ∧ ∃ H', Inv X pins σ H' s' ∧ Ext H H') X.xe s
theorem rcNB_tup (hD : MonB D) (h : EqB X n D) : RcNB X (n + 1) (DTupB X.K D) := by
  intro A pins s σ H x y u v k sb I rx ry d
  obtain ⟨a, b, xs, ys, ks, rfl, rfl, ha, hb, hlen, hks, hp, rfl⟩ := d
  cases rx
  cases ry
  obtain ⟨its, r, e, z⟩ := I.tuple ha
  obtain ⟨its2, r2, e2, z2⟩ := I.tuple hb
  have l1 := r.length
  have l2 := r2.length
  have hsz : its.toArray.size = its2.toArray.size := by rw [List.size_toArray, List.size_toArray, ← l1, ← l2]; exact hlen
  refine GQ.rc_tupNB hsz sb.room.units0 (fun i s' => (∃ H', Inv X pins σ H' s' ∧ Ext H H') ∧ ∀ j, j < i → ks[j]? = some true) (fun s' => (∃ H', Inv X pins σ H' s' ∧ Ext H H') ∧ ks.all id = false) e e2 (fun i h1 h2 s' q => ?_) (fun s' q => ?_) (fun s' q => ?_) ⟨⟨H, I, Ext.rfl'⟩, fun j hj => absurd hj (Nat.not_lt_zero _)⟩
  · obtain ⟨⟨H1, I1, e1⟩, hk⟩ := q
    have h1' : i < its.length := by simpa using h1
    have h2' : i < its2.length := by simpa using h2
    have g1 : its[i]? = some its.toArray[i] := by rw [List.getElem?_eq_getElem h1'] <;> simp
    have g2 : its2[i]? = some its2.toArray[i] := by rw [List.getElem?_eq_getElem h2'] <;> simp
    have k1 : i < xs.length := by omega
    have k2 : i < ys.length := by omega
    have k3 : i < ks.length := by omega
    obtain ⟨uu, hu, ru⟩ := r.get (List.getElem?_eq_getElem k1)
    obtain ⟨vv, hv, rv⟩ := r2.get (List.getElem?_eq_getElem k2)
    rw [g1] at hu
    rw [g2] at hv
    rw [Option.some.inj hu, Option.some.inj hv]
    refine wpAny_mono (h A.in1 pins s' σ H1 _ _ uu vv ks[i] sb.in1 I1 ru rv (hD _ _ _ _ _ e1 (hp i _ _ _ (List.getElem?_eq_getElem k1) (List.getElem?_eq_getElem k2) (List.getElem?_eq_getElem k3)))) (fun rr s2 q2 => ?_) fun _ _ x => x
    obtain ⟨hr, H2, I2, e2'⟩ := q2
    have hki : ks[i]? = some rr := by rw [hr]; exact List.getElem?_eq_getElem k3
    cases rr with
    | true =>
      refine .inl ⟨rfl, ⟨H2, I2, e1.trans e2'⟩, fun j hj => ?_⟩
      rcases Nat.lt_succ_iff_lt_or_eq.mp hj with hj | rfl
      · exact hk j hj
      · exact hki
    | false =>
      refine .inr ⟨rfl, ⟨H2, I2, e1.trans e2'⟩, ?_⟩
      rw [List.all_eq_false]
      exact ⟨false, List.mem_of_getElem? hki, by decide⟩
  · obtain ⟨q1, hk⟩ := q
    exact ⟨by rw [all_take hk (by simp; omega)]; rfl, q1⟩
  · obtain ⟨q1, hk⟩ := q
    exact ⟨by rw [hk]; rfl, q1⟩
/-- x == y, x != y as expressions -/
def rEqB (D : EqvB) : R2 := fun x y H Q => ∃ k, D x y H k ∧ ∀ H', Ext H H' → Q (.bl k) H'
def rNeB (D : EqvB) : R2 := fun x y H Q => ∃ k, D x y H k ∧ ∀ H', Ext H H' → Q (.bl (!k)) H'
theorem op_eqB (h : RcB X n D) (hr : Room n X.A) : OpR X (compareOp .Eq) (rEqB D) := by
  intro pins s σ H x y v u Q I rx ry hq
  obtain ⟨k, d, q⟩ := hq
  show wpAny (model X.prog X.w) X.A (richCompare .Eq v u) (EP X pins σ Q) X.xe s
  refine wpAny_mono (h X.A pins s σ H x y v u k ⟨hr, rfl⟩ I rx ry d) (fun r s' z => ?_) fun _ _ x => x
  obtain ⟨hr', H', I', e⟩ := z
  subst hr'
  exact ⟨.bl k, H', I', rfl, q H' e⟩
theorem op_neB (h : RcNB X n D) (hr : Room n X.A) : OpR X (compareOp .NotEq) (rNeB D) := by
  intro pins s σ H x y v u Q I rx ry hq
  obtain ⟨k, d, q⟩ := hq
  show wpAny (model X.prog X.w) X.A (richCompare .NotEq v u) (EP X pins σ Q) X.xe s
  refine wpAny_mono (h X.A pins s σ H x y v u k ⟨hr, rfl⟩ I rx ry d) (fun r s' z => ?_) fun _ _ x => x
  obtain ⟨hr', H', I', e⟩ := z
  subst hr'
  exact ⟨.bl (!k), H', I', rfl, q H' e⟩
end
end L2

set_option Elab.async false
set_option linter.all false
set_option maxRecDepth 100000
set_option maxHeartbeats 4000000
/-! except A as e: .. except B as e: ..; classes made with keyword-only parameters -/
namespace L2
open PySem PySem.Spec PyProof.Rows
abbrev SuT := Addr → Value → Option Addr → TS
/-- behind a suite the i-th slot is empty -/
def dropAt (i : Nat) (D : Ends) : Ends := { nx := fun g J => D.nx (g.set i none) J, rt := D.rt, bk := fun g J => D.bk (g.set i none) J, ct := fun g J => D.ct (g.set i none) J }
def wManyA (K : PySem.W.Frag) (Wo : WX) (D : Ends) : List (Value × Nat × SuT) → WX
  | [] => Wo
  | (c, i, ts) :: r => fun cl d g J => ∃ y, PySem.W.exmOne K cl c = some y ∧ (y = true → ∀ q, J q = none → ts q cl d (dropAt i D) (g.set i (some (.ref q))) J) ∧ (y = false → wManyA K Wo D r cl d g J)
inductive HdsA (X : Cx) : List ExceptHandler → List (Value × Nat × SuT) → Prop
  | nil : HdsA X [] []
  | cons {x n : Str} {c : Value} {i : Nat} {ts : SuT} {b0 : Stmt} {su : List Stmt} {np pp : Pos} {hds : List ExceptHandler} {l : List (Value × Nat × SuT)} (hi : X.N[i]? = some n) (hl : X.env.kindOf n = some .local) (hc : Names X x c)
      (hsu : ∀ (q : Addr) (oq : Obj) (cl : Value) (d : Option Addr) (pn : List (Addr × Obj)), Zc cl d oq → (∃ us, oq.data = .fields us) → PSs (X.suite q ((q, oq) :: pn)) (b0 :: su) (ts q cl d)) (r : HdsA X hds l) :
      HdsA X (.ExceptHandler (some (.Name x np)) (some n) (b0 :: su) pp :: hds) ((c, i, ts) :: l)
section
variable {X : Cx} {bd : List Stmt} {hd0 : ExceptHandler} {hds : List ExceptHandler} {l : List (Value × Nat × SuT)} {pos : Pos} {tb : WX → TS} {Wo : WX}
theorem ps_try_manyA (hs : X.stack = X.env :: X.outer) (hf : X.env.frame = some X.env.locals) (hN : X.N.Nodup) (tk : Takes X Wo)
    (hb : ∀ (W : WX) (pn : List (Addr × Obj)) (xe : Value → Shared → Prop), Takes (X.tr pn xe) W → PassesOwn (model X.prog X.w) X.A X.env xe → PSs (X.tr pn xe) bd (tb W))
    (hh : HdsA X (hd0 :: hds) l) : PS X (.Try bd (hd0 :: hds) [] [] pos) (fun D g J => tb (wManyA X.K Wo D l) D g J) := by
  refine ⟨fun pins s0 g0 J0 D I0 h => ?_⟩
  have kk := I0.ok
  have hfr : X.A.frames = some (X.env :: X.outer) := by rw [kk.frames, hs]
  refine wpAny_Try_except (wpAny_mono ((hb (wManyA X.K Wo D l) (X.pn ++ pins) (fun u t1 => wpAny (model X.prog X.w) X.A (noteFrame u X.env) (fun _ t2 => wpAny (model X.prog X.w) X.A (setFlight u none) (fun _ t3 =>
    wpAny (model X.prog X.w) X.A (handleBy u X.env (hd0 :: hds)) (SP X pins D) X.xe t3) X.xe t2) X.xe t1) (fun u t1 xx => ?_) PassesOwn.looking).run [] s0 g0 J0 D (I0.toTry _) h) (fun fl t1 hsp => ?_) (fun _ _ z => z))
  · obtain ⟨q, B, sI, pns, g1, J1, cl, d, rfl, K1, nb, up, sky, na, os, ag, wx⟩ := xx
    have V : Inv X pins g1 J1 sI := K1.ofTry kk
    have sky2 : Sky B (X.env :: X.outer) q (Zc cl d) X.env.locals t1.heap := by rw [← hs]; exact sky
    show wpAny (model X.prog X.w) X.A (noteFrame (.ref q) X.env) _ _ _
    refine Sky.land Zc.steady hfr hf sky2 fun h3 f3 u3 => ?_
    have V3 : Inv X pins g1 J1 { t1 with heap := h3 } := V.landed nb f3.1 (up.trans u3) os ag
    obtain ⟨o3, v3, e3, z3, d3⟩ := f3.there
    have apart : ∀ {hh : Heap} {o : Obj} {us : Array Value}, hh.FunFrames B (X.env :: X.outer) → hh.get? q = some o → o.data = .fields us → q ∉ frs (X.env :: X.outer) := fun {hh o us} ff e dd hm => by
      obtain ⟨_, o', e', hnf⟩ := ff.mem hm
      rw [e] at e'
      cases e'
      exact hnf _ dd
    have np := apart f3.2.2.1 e3 d3
    have nL : q ≠ X.env.locals := fun z => np (List.mem_filterMap.mpr ⟨X.env, List.mem_cons_self, by rw [hf, z]⟩)
    have nF : q ∉ X.fs := fun hm => by
      obtain ⟨e, he, r⟩ := List.mem_filterMap.mp hm
      exact np (List.mem_filterMap.mpr ⟨e, List.mem_cons_of_mem _ he, r⟩)
    have S3 := V3.suite e3 d3 na nL nF
    have go : ∀ {hz : List ExceptHandler} {lz : List (Value × Nat × SuT)}, HdsA X hz lz → wManyA X.K Wo D lz cl d g1 J1 → wpAny (model X.prog X.w) X.A (handleBy (.ref q) X.env hz) (SP X pins D) X.xe { t1 with heap := h3 } := by
      intro hz lz hk
      induction hk with
      | nil =>
        intro wz
        refine wpAny_handleBy_nil ?_
        obtain ⟨_, _, _, oq, us, TB, oT, ts2, he, hq, hdd, h1, hr⟩ := id f3
        unfold PySem.passOn
        refine wpAny_bind (wpAny_field he hdd h1 ?_)
        rw [if_neg (show ¬ ((Value.ref TB == Value.none) = true) by simp)]
        have fin : wpAny (model X.prog X.w) X.A (setFlight (.ref q) X.env.frame) (fun _ t4 => wpAny (model X.prog X.w) X.A (throw (.ref q) : Sem Flow) (SP X pins D) X.xe t4) X.xe { t1 with heap := h3 } := by
          rw [hf]
          refine HandSPX.setFlight_upZ f3 fun h4 hh4 up4 => wpAny_throw (tk _ _ ?_)
          exact ⟨q, B, sI, pins, g1, J1, cl, d, rfl, V, nb, (up.trans u3).trans up4, .inr (.inr (by rw [hs]; exact hh4)), na, os, ag, wz⟩
        first | exact wpAny_bind (wpAny_pure (wpAny_bind fin)) | exact wpAny_bind fin
      | @cons x n c i ts b0 su np pp hds2 l2 hi hl hc hsu r ih =>
        intro wz
        obtain ⟨y, hy, yes, no⟩ := wz
        refine wpAny_handleBy_cons (codeAny_handlers_test ?_) (by intro z; cases z)
        have LT : PySem.W.Looks (model X.prog X.w) h3 (typeOf (.ref q)) cl := fun A Q E s k r => wpAny_typeOf_ref (k _ _ e3) (by rw [z3.1]; exact r)
        have LM := PySem.W.exm_one (M := model X.prog X.w) (V3.kIn) LT hy
        have tst : ∀ {Q E : Value → Shared → Prop}, Q c { t1 with heap := h3 } → wpAny (model X.prog X.w) (X.A.mark (some (.ref q))) (eval (.Name x np) X.env) Q E { t1 with heap := h3 } := fun {Q E} z => by
          obtain ⟨hg, hdbg, hm | ⟨hm, hv, hnn⟩⟩ := hc
          · exact ld_glob (X := X.suite q ((q, o3) :: (X.pn ++ pins))) S3 hg hm z hdbg
          · exact ld_blt (X := X.suite q ((q, o3) :: (X.pn ++ pins))) S3 hg hm hv z hnn hdbg
        refine tst (LM.here ?_)
        cases y with
        | true =>
          refine codeAny_handlers_suite_as (HandSPX.lands_againZ f3 fun h4 f4 u4 => ?_)
          have V4 : Inv X pins g1 J1 { t1 with heap := h4 } := V.landed nb f4.1 ((up.trans u3).trans u4) os ag
          obtain ⟨o4, v4, e4, z4, d4⟩ := f4.there
          have S4 := V4.suite e4 d4 na nL nF
          have hloc : Loc X.env.scope n := .inl hl
          refine store_ok (X := X.suite q ((q, o4) :: (X.pn ++ pins))) (v := .ref q) S4 hN hi hloc rfl (fun t5 S5 => ?_) (.inr hl)
          refine wpAny_mono ((hsu q o4 cl d (X.pn ++ pins) z4 ⟨_, d4⟩).run [] t5 _ J1 _ S5 (yes rfl q na)) (fun fl t6 sp => ?_) (fun _ _ z => False.elim z)
          have ends : ∀ {g6 : St} {J6 : Hp} {Q : Shared → Prop}, Inv (X.suite q ((q, o4) :: (X.pn ++ pins))) [] g6 J6 t6 → (∀ t7, Inv X pins (g6.set i none) J6 t7 → Q t7) →
              wpAny (model X.prog X.w) X.A (do bindName X.env n .none; unbindBehindTheSuite X.env n pp) (fun _ t7 => Q t7) X.xe t6 := fun {g6 J6 Q} S6 hq => gone_ok (S6.unsuite kk) hN hi hl hq
          cases fl with
          | next =>
            obtain ⟨g6, J6, S6, r6⟩ := sp
            exact ends S6 fun t7 V7 => ⟨_, _, V7, r6⟩
          | brk =>
            obtain ⟨g6, J6, S6, r6⟩ := sp
            exact ends S6 fun t7 V7 => ⟨_, _, V7, r6⟩
          | cont =>
            obtain ⟨g6, J6, S6, r6⟩ := sp
            exact ends S6 fun t7 V7 => ⟨_, _, V7, r6⟩
          | ret u =>
            obtain ⟨w6, g6, J6, S6, r6, y6⟩ := sp
            exact ends S6 fun t7 V7 => ⟨_, _, _, V7, r6, y6⟩
        | false =>
          show wpAny _ X.A (handleBy (.ref q) X.env hds2) _ _ _
          exact ih (no rfl)
    exact go hh wx
  · cases fl with
    | next =>
      obtain ⟨g6, J6, V6, r⟩ := hsp
      exact wpAny_execs_nil ⟨g6, J6, V6.ofTry kk, r⟩
    | brk =>
      obtain ⟨g6, J6, V6, r⟩ := hsp
      exact ⟨g6, J6, V6.ofTry kk, r⟩
    | cont =>
      obtain ⟨g6, J6, V6, r⟩ := hsp
      exact ⟨g6, J6, V6.ofTry kk, r⟩
    | ret u =>
      obtain ⟨v6, g6, J6, V6, rv, r⟩ := hsp
      exact ⟨v6, g6, J6, V6.ofTry kk, rv, r⟩
end
/-! ### C(e, .., k = v, ..), keyword-only parameters without defaults, all written in their order -/
section
variable {K : PySem.W.Frag} {x qual : Str} {st : Stmt} {f : Addr} {fd : FuncData} {ps ks : List Str} {n : Nat}
abbrev KBa (K : PySem.W.Frag) (fd : FuncData) (ps : List Str) (n : Nat) (ks : List Str) : Prop := KBn K fd ps n ks (fun us ws => us ++ ws) (fun vs zs => vs ++ zs)
theorem Fun.kba (F : Fun K x qual st f fd)
    (h : ∀ (kV doc pm : Value) (an : Option Addr) (cdv ct : Value) (us ws : List Value), us.length = n → ws.length = ks.length → bindArgs (PySem.W.fnOf x qual (defArgs st) (defBody st) (defScope st) .none kV doc pm an cdv ct) ⟨us, ks.zip ws⟩ = pure (ps.zip (us ++ ws))) : KBa K fd ps n ks := by
  obtain ⟨_, _, kV, doc, pm, an, cdv, ct, _, rfl, _, _⟩ := F.ex
  exact ⟨fun s us ws _ l1 l2 => .of_eq (h kV doc pm an cdv ct us ws l1 l2), fun r1 r2 => r1.append r2⟩
end
structure OwnCK (P : Program) (w : World) (K : PySem.W.Frag) (mg : Str → Option Value) (base : Heap) (CX : CXT) (x : Str) (C : Addr) (k : Nat) (ps : List Str) (n : Nat) (ks : List Str) (sp : Sp) : Prop where
  ex : ∃ (f : Addr) (fd : FuncData), FnOk P w K mg base CX k f fd ps sp ∧ Mk K C f ∧ mg x = some (.ref C) ∧ KBa K fd ps (n + 1) ks
section
variable {X : Cx} {CX : CXT} {k n : Nat} {f C : Addr} {fd : FuncData} {ps ks : List Str} {sp : Sp} {E : St → XK} {x : Str} {p pos : Pos} {e : Expr} {es : List Expr} {kws : List Keyword} {t tk : TA} {W : WX}
/-- the errors wished at the slots -/
def tMakeKS (C : Addr) (n m : Nat) (sp : Sp) (E : St → XK) (t tk : TA) : TE := fun g J Q => t g J fun vs J1 => tk g J1 fun zs J2 => vs.length = n ∧ zs.length = m ∧ ∀ o dx, J2 o = none → J2 dx = none → dx ≠ o →
  sp (.ref o :: vs ++ zs) (upd (upd J2 dx (.own o)) o (.ins C dx [])) (fun v J3 => v = .non ∧ Q (.ref o) J3) (fun cl d J3 => E g cl d J3)
theorem run_makeKS {pins : List (Addr × Obj)} {g : St} {J : Hp} {s : Shared} {Q : VK} {us ws : List Value} {vs zs : List V} (M : Mk X.K C f) (F : FnOk X.prog X.w X.K X.mg X.base CX k f fd ps sp) (hr : Room (k + 1) X.A) (hb : KBa X.K fd ps (n + 1) ks) (hx : PassesAt CX X g (E g))
    (I : Inv X pins g J s) (r : Vals vs us) (rz : Vals zs ws) (l1 : vs.length = n) (l2 : zs.length = ks.length)
    (h : ∀ o dx, J o = none → J dx = none → dx ≠ o → sp (.ref o :: vs ++ zs) (upd (upd J dx (.own o)) o (.ins C dx [])) (fun v J2 => v = .non ∧ Q (.ref o) J2) (E g)) :
    wpAny (model X.prog X.w) X.A (call (.ref C) us (ks.zip ws)) (EP X pins g Q) X.xe s := by
  have want := h (s.heap.objs.size + 1) s.heap.objs.size (I.hok.fresh (Nat.le_succ _)) (I.hok.fresh (Nat.le_refl _)) (Nat.ne_of_lt (Nat.lt_succ_self _))
  have I2 := Inv.made (C := C) I
  have m1 : Vals (V.ref (s.heap.objs.size + 1) :: vs) (Value.ref (s.heap.objs.size + 1) :: us) := .cons rfl r
  have m2 := hb.rel m1 rz
  have k1 : (Value.ref (s.heap.objs.size + 1) :: us).length = n + 1 := by rw [List.length_cons, ← r.length, l1]
  refine wpAny_call (make_map (f := f) I.kIn M.makes M.init (beq_iff_eq.mp M.fn) (codeAny_mono (F.run _ X.stack _ _ ⟨Value.ref (s.heap.objs.size + 1) :: us, ks.zip ws⟩ (Value.ref (s.heap.objs.size + 1) :: us ++ ws) _ _ (E g) (hr.make C us (ks.zip ws))
    (I2.env0.make C us (ks.zip ws)) (hb.to _ (Value.ref (s.heap.objs.size + 1) :: us) ws I2.kIn k1 (rz.length.symm.trans l2)) m2 want) fun z t1 hz => ?_))
  cases z with
  | error u => exact hx pins _ _ u t1 I2 hz
  | ok fl =>
    cases fl with
    | ret u =>
      obtain ⟨v, J3, I3, rv, ev, q3⟩ := I2.after hz
      subst ev
      exact ⟨rv, ⟨V.ref (s.heap.objs.size + 1), J3, I3, rfl, q3⟩⟩
    | next => exact False.elim hz
    | brk => exact False.elim hz
    | cont => exact False.elim hz
theorem pe_newKS (O : OwnCK X.prog X.w X.K X.mg X.base (L2.CX X.prog X.w) x C k ps n ks sp) (hr : Room (k + 1) X.A) (tw : Takes X W) (ha : PA X (e :: es) t) (hkw : PK X kws tk) (hg : Gl X x := by rfl)
    (hall : (backToKw pos (keywordEach kws X.env)).all (·.1.isSome) = true := by rfl) (hks : (backToKw pos (keywordEach kws X.env)).filterMap (·.1) = ks := by rfl) (hdb : (x == ("__debug__" : Str)) = false := by decide)
    (he : starEach (e :: es) X.env = (false, eval e X.env) :: starEach es X.env := by rfl) (hpl : ((backTo pos (starEach (e :: es) X.env)).any (·.1) || (backToKw pos (keywordEach kws X.env)).any (·.1.isNone)) = false := by rfl) :
    PE X (.Call (.Name x p) (e :: es) kws pos) (tMakeKS C n ks.length sp (WE W) t tk) := by
  obtain ⟨f, fd, F, M, hm, hb⟩ := O.ex
  refine ⟨fun pins s g J Q I h => wpAny_Call_Name_kw (ld_glob I hg hm ?_ hdb)⟩
  refine PySem.W.callWith_KW (h₀ := X.base) I.ok.mod.kin M.kp hall (thn (ha.run pos pins s g J _ I h) fun us s1 ⟨vs, J1, I1, r, q⟩ => ?_) hpl he
  refine thn (hkw.run pos pins s1 g J1 _ I1 q) fun ws s2 ⟨zs, J2, I2, rz, l1, l2, q2⟩ => ⟨I2.kIn, ?_⟩
  rw [hks]
  exact run_makeKS M F hr hb (passAt tw g) I2 r rz l1 l2 q2
end
section
variable {X : Cx} {e : Expr} {f : Str} {pos : Pos} {ta : TE}
/-- e.f where the context is not known yet -/
theorem pe_fldA (he : PE X e ta) (hb : attributeBase e f X.env (eval e X.env) = eval e X.env := by rfl) : PE X (.Attribute e f pos) (tFld X.K ta f) := pe_fld he hb
end
end L2

set_option Elab.async false
set_option maxRecDepth 100000
set_option maxHeartbeats 4000000
/-! slices and sums of tuples, whichever object it is -/
namespace L2
open PySem PySem.Spec PyProof.Rows
section
variable {X : Cx}
theorem cut_whole {xs : List V} {lo hi : Option Int} (h : HT.sIx xs.length 0 lo = 0 ∧ HT.sIx xs.length xs.length hi = xs.length) : cutV xs lo hi = xs := by
  unfold cutV
  rw [h.1, h.2]
  simp
/-- a slice of a tuple, whichever object it is -/
def rSlE : V → Option Int → Option Int → Hp → VK → Prop := fun x lo hi H Q => ∃ a xs, x = .ref a ∧ H a = some (.tup xs) ∧ ∀ p H', Ext H H' → H' p = some (.tup (cutV xs lo hi)) → Q (.ref p) H'
theorem sl_tupE : SlR X rSlE := by
  intro pins s σ H x v vl vu lo hi sl Q I rx hs pl pu h
  obtain ⟨a, xs, rfl, ha, q⟩ := h
  exact sl_tupA pins s σ H _ v vl vu lo hi sl Q I rx hs pl pu ⟨a, xs, rfl, SqT.of ha, fun hw => q a H Ext.rfl' (by rw [cut_whole hw]; exact ha), fun _ p hp => q p _ (Ext.upd hp) upd_same⟩
/-- the sum of two tuples, whichever object it is -/
def rCatE : R2 := fun x y H Q => ∃ a b xs ys, x = .ref a ∧ y = .ref b ∧ H a = some (.tup xs) ∧ H b = some (.tup ys) ∧ xs.length + ys.length ≤ sizeLine ∧ ∀ p H', Ext H H' → H' p = some (.tup (xs ++ ys)) → Q (.ref p) H'
theorem op_catE : OpR X (binaryOp .Add) rCatE := by
  intro pins s σ H x y v u Q I rx ry h
  obtain ⟨a, b, xs, ys, rfl, rfl, ha, hb, hz, q⟩ := h
  refine op_catA pins s σ H _ _ v u Q I rx ry ⟨a, b, xs, ys, rfl, rfl, SqT.of ha, SqT.of hb, hz, fun e => q b H Ext.rfl' ?_, fun _ e => q a H Ext.rfl' ?_, fun _ _ p hp => q p _ (Ext.upd hp) upd_same⟩
  · subst e
    exact hb
  · subst e
    rw [List.append_nil]
    exact ha
end
end L2

set_option Elab.async false
set_option linter.all false
set_option maxRecDepth 100000
set_option maxHeartbeats 4000000
/-! one of two readings; tuple.index of flat items; an own __contains__ -/
namespace PySem.W
open PySem PySem.Calls PyProof.Rows
section
variable {prog : Program} {w : World} {A : Around} {E : Value → Shared → Prop} {s : Shared} {K : Frag} {x C f : Addr} {ox : Obj} {od : Option Obj}
theorem contains_fn {v : Value} {Q : Bool → Shared → Prop} (X : K.In s.heap) (I : InstAt s.heap x ox C od) (hs : findIn K (.ref C) "__contains__" = some (some (.ref f))) (hf : isFn K (.ref f) = true)
    (h : wpAny (model prog w) A (call (.ref f) [.ref x, v]) (fun r s' => ∃ b, r = .bool b ∧ Q b s') E s) : wpAny (model prog w) A (contains (.ref x) v) Q E s := by
  unfold contains
  refine wpAny_holding ?_
  have e1 : stdlibNamesSay? (.ref x) v = none := rfl
  rw [e1]
  refine wpAny_bind (wpAny_bind (I.type.here ((looks_findIn X hs).here ?_)))
  show wpAny _ _ (if (some (Value.ref f) == some Value.none) = true then _ else _) _ _ _
  rw [if_neg (by simp)]
  refine wpAny_bind (m := callSpecialUnlessNone? (.ref x) _ _ _) ?_
  unfold callSpecialUnlessNone?
  refine wpAny_bind (wpAny_bind (I.type.here ((looks_findIn X hs).here ?_)))
  refine wpAny_holding (wpAny_bind ((bind_fn X _ (beq_iff_eq.mp hf)).here ?_))
  show wpAny _ _ (if (Value.ref f == Value.none) = true then _ else _) _ _ _
  rw [if_neg (by simp)]
  refine wpAny_bind (wpAny_mono h (fun r s' z => ?_) fun _ _ z => z)
  obtain ⟨b, rfl, q⟩ := z
  exact wpAny_pure (wpAny_truthy_bool q)
end
end PySem.W
namespace L2
open PySem PySem.Spec PyProof.Rows
section
variable {X : Cx}
theorem pe_either {ex : Expr} {t1 t2 : TE} (h1 : PE X ex t1) (h2 : PE X ex t2) : PE X ex (fun g J Q => t1 g J Q ∨ t2 g J Q) := ⟨fun pins s g J Q I h => h.elim (fun z => h1.run pins s g J Q I z) (fun z => h2.run pins s g J Q I z)⟩
def rIndexT (K : PySem.W.Frag) : V → List V → Hp → VK → Prop := fun o vs J Q => ∃ (p : Addr) (ts : List V) (e : V) (n : Nat) (c : V), o = V.ref p ∧ vs = [e] ∧ SqT K J p ts ∧ flatV e = true ∧ ts.all flatV = true ∧ ts[n]? = some c ∧ eqV c e = true ∧
  (∀ (m : Nat) (c' : V), m < n → ts[m]? = some c' → eqV c' e = false) ∧ Q (.int (n : Nat)) J
theorem mt_tupIndex : MtR X "tuple.index" (rIndexT X.K) := by
  intro pins s g J o vs v us Q I ro rvs h
  obtain ⟨p, ts, e, n, c, rfl, rfl, ht, fe, fts, hc, hce, no, q⟩ := h
  cases ro
  cases rvs with
  | cons re rt =>
    rename_i ue ut
    cases rt
    obtain ⟨its, rv, ⟨⟨cls, dd, dt, sl⟩, ho, hcl, nn, hd⟩, hz⟩ := I.tuple ht
    simp only at hcl hd
    subst hcl hd
    obtain ⟨u, hu, ru⟩ := rv.get hc
    obtain ⟨nl, ne⟩ := List.getElem?_eq_some_iff.mp hu
    have hvl := rv.length
    have hn : n < its.toArray.size := by simpa using nl
    refine call_meets PySem.F.slot_tuple_index ⟨_, ho, rfl⟩ PySem.F.entry_tuple_index (PySem.F.args_tuple_index_2 _ _) (TI.tuple_indexAt p its.toArray nn dd sl ue (eqU e) n hn ?_ ?_)
      ⟨ho, fun w hw => mem_eqAt re fe rv fts w (by simpa using hw), ?_⟩
    · have e1 : its.toArray[n] = u := by simpa using ne
      rw [e1, eqU_of ru (flat_at fts hc)]
      exact hce
    · intro m hm hmn
      have ml : m < its.length := by simpa using hm
      have mt : m < ts.length := by omega
      have gm : ts[m]? = some ts[m] := List.getElem?_eq_getElem mt
      obtain ⟨u2, hu2, ru2⟩ := rv.get gm
      obtain ⟨_, me⟩ := List.getElem?_eq_some_iff.mp hu2
      have e2 : its.toArray[m] = u2 := by simpa using me
      rw [e2, eqU_of ru2 (flat_at fts gm)]
      exact no m _ hmn gm
    · exact ⟨.int (n : Nat), J, I.tok _, ⟨_, rfl⟩, q⟩
end
section
variable {X : Cx} {CX : CXT} {k : Nat} {f C : Addr} {fd : FuncData} {ps : List Str} {sp : Sp}
/-- x in o, o an instance of the class at C with an own __contains__ -/
def rInO (C : Addr) (sp : Sp) : R2 := fun x y H Q => ∃ a dx fs, y = .ref a ∧ H a = some (.ins C dx fs) ∧ sp [y, x] H (fun v H' => ∃ b, v = .bl b ∧ Q (.bl b) H') E0
theorem op_inO (F : FnOk X.prog X.w X.K X.mg X.base CX k f fd ps sp) (hs : PySem.W.findIn X.K (.ref C) "__contains__" = some (some (.ref f))) (hf : PySem.W.isFn X.K (.ref f) = true) (hr : Room k X.A) (hb : Binds X.K fd ps []) (hx : Passes CX X E0) : OpR X (compareOp .In) (rInO C sp) := by
  intro pins s g J x y v u Q I rx ry hq
  obtain ⟨a, dx, fs, rfl, ha, q⟩ := hq
  cases (show u = Value.ref a from ry)
  obtain ⟨mA, O, _⟩ := ins_get I.hok ha
  obtain ⟨od, O, _⟩ := O.look
  show wpAny (model X.prog X.w) X.A (contains (.ref a) v >>= fun b => pure (.bool b)) (EP X pins g Q) X.xe s
  refine wpAny_bind (PySem.W.contains_fn I.kIn O hs hf (wpAny_mono (run_at (vs := [.ref a, x]) F hr rfl hb hx I (.cons rfl (.cons rx .nil)) q) (fun r s' z => ?_) fun _ _ e => e))
  obtain ⟨w', J', I', rv, b, rfl, q'⟩ := z
  cases rv
  exact ⟨b, rfl, wpAny_pure ⟨.bl b, J', I', rfl, q'⟩⟩
theorem inO {m : Nat} (O : OwnM X.prog X.w X.K X.mg X.base CX C "__contains__" m ps sp) (hr : Room m X.A) (hx : Passes CX X E0) : OpR X (compareOp .In) (rInO C sp) := by
  obtain ⟨f, fd, F, M, hi, hb⟩ := O.ex
  exact op_inO F M.at_ hi hr hb hx
end
end L2

set_option Elab.async false
set_option maxRecDepth 100000
set_option maxHeartbeats 4000000
/-! ranges with a step made lists and tuples; zip of two tuples in a comprehension; a def that is held by a name -/
namespace L2
open PySem PySem.Spec PyProof.Rows
theorem pss_dead {X : Cx} {ss : List Stmt} : PSs X ss (fun _ _ _ => False) := ⟨fun _ _ _ _ _ _ h => h.elim⟩
/-- the def at f keeps its promise -/
structure OwnAt (P : Program) (w : World) (K : PySem.W.Frag) (mg : Str → Option Value) (base : Heap) (CX : CXT) (f : Addr) (k : Nat) (ps : List Str) (sp : Sp) : Prop where
  ex : ∃ fd, FnOk P w K mg base CX k f fd ps sp ∧ PySem.W.keepIn K (.ref f) = true ∧ Binds K fd ps []
theorem Own.at_ {P : Program} {w : World} {K : PySem.W.Frag} {mg : Str → Option Value} {base : Heap} {CX : CXT} {x : Str} {k : Nat} {ps : List Str} {sp : Sp} (O : Own P w K mg base CX x k ps sp) : ∃ f, mg x = some (.ref f) ∧ OwnAt P w K mg base CX f k ps sp := by
  obtain ⟨f, fd, F, hm, hk, hb⟩ := O.ex
  exact ⟨f, hm, fd, F, hk, hb⟩
section
variable {X : Cx} {CX : CXT} {x : Str} {k i : Nat} {f : Addr} {ps : List Str} {sp : Sp} {e : Expr} {es : List Expr} {t : TA} {p pos : Pos}
/-- the i-th slot holds f, which is called; W is wished for what it raises -/
def tCallVS (i : Nat) (f : Addr) (sp : Sp) (E : St → XK) (t : TA) : TE := fun σ H Q => σ[i]? = some (some (.ref f)) ∧ t σ H fun vs H1 => sp vs H1 Q (E σ)
theorem pe_ownVS {W : WX} (O : OwnAt X.prog X.w X.K X.mg X.base (L2.CX X.prog X.w) f k ps sp) (hr : Room k X.A) (tk : Takes X W) (hN : X.N[i]? = some x) (hv : Vis X.env.scope x) (ha : PA X (e :: es) t)
    (hdb : (x == ("__debug__" : Str)) = false := by decide) (hcd : (x == ("__classdict__" : Str)) = false := by decide)
    (he : starEach (e :: es) X.env = (false, eval e X.env) :: starEach es X.env := by rfl) (hpl : (backTo pos (starEach es X.env)).any (·.1) = false := by rfl) : PE X (.Call (.Name x p) (e :: es) [] pos) (tCallVS i f sp (WE W) t) := by
  obtain ⟨fd, F, hk, hb⟩ := O.ex
  refine ⟨fun pins s σ H Q I h => ?_⟩
  obtain ⟨hσ, h⟩ := h
  refine PyProof.Rows.Call_ (thn ((pe_var (pos := p) hN hv hdb hcd).run pins s σ H (fun y H1 => y = .ref f ∧ H1 = H) I ⟨_, hσ, rfl, rfl⟩) fun u s1 ⟨y, H1, I1, rx, ex, eh⟩ => ?_) rfl
  subst ex eh
  obtain rfl : u = Value.ref f := rx
  refine PySem.W.callWith_K (h₀ := X.base) I1.ok.mod.kin hk (thn (ha.run pos pins s1 σ H1 _ I1 h) fun us s2 ⟨vs, H2, I2, r, q⟩ => ⟨I2.kIn, ?_⟩) he hpl
  exact run_fnSD (us := us) (vs := vs) F hr hb .nil (passAt tk σ) I2 r (by rw [List.append_nil]; exact q)
end
/-! zip of two tuples -/
section
variable {K : PySem.W.Frag} {a b : Addr} {xs ys : List V}
theorem walk_zipT {n : Nat} (hn : n = min xs.length ys.length) : Walk (RZ.ItzT K a b) n (fun H => SqT K H a xs ∧ SqT K H b ys) (YPair (fun i => xs[i]?) (fun i => ys[i]?)) := by
  refine ⟨fun i _ hi q => ⟨xs, ys, xs[i]'(by omega), ys[i]'(by omega), q.1, q.2, List.getElem?_eq_getElem (by omega), List.getElem?_eq_getElem (by omega)⟩, fun _ q => ⟨xs, ys, q.1, q.2, by omega⟩, fun i H v H' _ q y => ?_⟩
  obtain ⟨T, x, y, e1, e2, e3, h1, h2⟩ := y
  exact ⟨T, x, y, e1, e2, e3, h1 xs q.1, h2 ys q.2⟩
end
/-! ranges with a step -/
section
variable {X : Cx}
def PRg3 (X : Cx) (e : Expr) (t : St → Hp → (Int → Int → Int → Hp → Prop) → Prop) : Prop :=
  ∀ (pins : List (Addr × Obj)) (s : Shared) (σ : St) (H : Hp) (Q : Int → Int → Int → Hp → Prop), Inv X pins σ H s → t σ H Q →
    wpAny (model X.prog X.w) X.A (eval e X.env) (fun x s' => ∃ r a b c t u v H', x = Value.ref r ∧ IsRange s'.heap r a b c t u v ∧ Inv X pins σ H' s' ∧ Q a b c H') X.xe s
def tRg3 (t : TA) (σ : St) (H : Hp) (Q : Int → Int → Int → Hp → Prop) : Prop := t σ H fun vs H1 => ∃ a b c, vs = [.int a, .int b, .int c] ∧ c ≠ 0 ∧ (-(2 ^ 62) ≤ a ∧ a < 2 ^ 62 ∧ -(2 ^ 62) ≤ b ∧ b < 2 ^ 62 ∧ c.natAbs < 1073741824) ∧ Q a b c H1
end
end L2

set_option Elab.async false
set_option maxRecDepth 100000
set_option maxHeartbeats 4000000
/-! comprehensions over ranges and over zip of two tuples, told by the place; what is tested and made only adds to the heap -/
namespace L2
open PySem PySem.Spec PyProof.Rows
/-- a comprehension's turns -/
abbrev LcGo (J : It) (g : TG) (tt : TT) (te : TE) (vs : List Nat) (σ : St) (H1 : Hp) (D : Addr) (Qd : Hp → Prop) : Prop :=
  ∃ W : Nat → Nat → Hp → Prop, (∃ m, W 0 m (upd H1 D (.lst []))) ∧ ∀ i m H, W i m H →
    (J.stop i H ∧ Qd H) ∨ (J.go i H ∧ ∃ Nx : Hp → Prop, (∀ H', Nx H' → ∃ m', m' < m ∧ W (i + 1) m' H') ∧ ∀ x H', J.yld i H x H' → g x (wipe σ vs) H' fun σ2 H2 => wipe σ2 vs = wipe σ vs ∧ tt σ2 H2 fun b H3 =>
      if b = true then te σ2 H3 fun y H4 => ∃ acc, H4 D = some (.lst acc) ∧ acc.length < sizeLine ∧ Nx (upd H4 D (.lst (acc ++ [y]))) else Nx H3)
theorem range_snoc (n : Nat) : List.range (n + 1) = List.range n ++ [n] := List.range_succ
section
variable {K : PySem.W.Frag} {σ : St} {H : Hp} {te : TE} {tt : TT} {vs : List Nat}
theorem lc_turn {f : Nat → V} {b : Nat → Bool} {D : Addr} {i n : Nat} {σ2 : St} {H' : Hp} (hD : H D = none) (hz : n < sizeLine) (hi : i < n) (hw : wipe σ2 vs = wipe σ vs) (e : Ext H H') (hl : H' D = some (.lst (((List.range i).filter b).map f)))
    (ht : ∀ Q : Bool → Hp → Prop, (∀ H'', Ext H' H'' → Q (b i) H'') → tt σ2 H' Q) (he : b i = true → ∀ H3, Ext H' H3 → ∀ Q : VK, (∀ H'', Ext H3 H'' → Q (f i) H'') → te σ2 H3 Q) :
    wipe σ2 vs = wipe σ vs ∧ tt σ2 H' fun b' H3 => if b' = true then te σ2 H3 fun y H4 => ∃ acc, H4 D = some (.lst acc) ∧ acc.length < sizeLine ∧ (Ext H (upd H4 D (.lst (acc ++ [y]))) ∧ upd H4 D (.lst (acc ++ [y])) D = some (.lst (((List.range (i + 1)).filter b).map f)))
      else (Ext H H3 ∧ H3 D = some (.lst (((List.range (i + 1)).filter b).map f))) := by
  refine ⟨hw, ht _ fun H3 e3 => ?_⟩
  have hl3 := e3 _ _ hl
  cases hb : b i with
  | true =>
    refine iteT (he hb H3 e3 _ fun H4 e4 => ⟨_, e4 _ _ hl3, ?_, ext_mut ((e.trans e3).trans e4) hD, ?_⟩)
    · rw [List.length_map]
      refine Nat.lt_of_le_of_lt (Nat.le_trans (List.length_filter_le _ _) ?_) hz
      rw [List.length_range]
      omega
    · rw [upd_same, range_snoc, List.filter_append, List.map_append]
      simp [hb]
  | false =>
    refine iteF ⟨e.trans e3, ?_⟩
    rw [hl3, range_snoc, List.filter_append, List.map_append]
    simp [hb]
theorem lc_rgR {Qd : Addr → Hp → Prop} {lo : Int} {n j : Nat} {f : Nat → V} {b : Nat → Bool} (hz : n < sizeLine) (hw : ∀ x, wipe ((wipe σ vs).set j (some x)) vs = wipe σ vs)
    (ht : ∀ i, i < n → ∀ H', Ext H H' → ∀ Q : Bool → Hp → Prop, (∀ H'', Ext H' H'' → Q (b i) H'') → tt ((wipe σ vs).set j (some (.int (lo + i)))) H' Q)
    (he : ∀ i, i < n → b i = true → ∀ H', Ext H H' → ∀ Q : VK, (∀ H'', Ext H' H'' → Q (f i) H'') → te ((wipe σ vs).set j (some (.int (lo + i)))) H' Q)
    (q : ∀ D H', H D = none → Ext H H' → H' D = some (.lst (((List.range n).filter b).map f)) → Qd D H') : ∀ D, H D = none → LcGo (Itr lo n) (gName j) tt te vs σ H D (Qd D) := fun D hD =>
  lc_range (fun i H' => Ext H H' ∧ H' D = some (.lst (((List.range i).filter b).map f))) ⟨Ext.upd hD, upd_same⟩ (fun i H' hi pv => lc_turn hD hz hi (hw _) pv.1 pv.2 (ht i hi H' pv.1) fun hb H3 e3 => he i hi hb H3 (pv.1.trans e3)) (fun H' pv => q D H' hD pv.1 pv.2)
theorem lc_zipR {Qd : Addr → Hp → Prop} {a b2 : Addr} {xs ys : List V} {n i1 i2 : Nat} {f : Nat → V} {b : Nat → Bool} (hx : SqT K H a xs) (hy : SqT K H b2 ys) (hn : n = min xs.length ys.length) (hz : n < sizeLine)
    (hw : ∀ x y, wipe (((wipe σ vs).set i1 (some x)).set i2 (some y)) vs = wipe σ vs)
    (ht : ∀ i x y, i < n → xs[i]? = some x → ys[i]? = some y → ∀ H', Ext H H' → ∀ Q : Bool → Hp → Prop, (∀ H'', Ext H' H'' → Q (b i) H'') → tt (((wipe σ vs).set i1 (some x)).set i2 (some y)) H' Q)
    (he : ∀ i x y, i < n → xs[i]? = some x → ys[i]? = some y → b i = true → ∀ H', Ext H H' → ∀ Q : VK, (∀ H'', Ext H' H'' → Q (f i) H'') → te (((wipe σ vs).set i1 (some x)).set i2 (some y)) H' Q)
    (q : ∀ D H', H D = none → Ext H H' → H' D = some (.lst (((List.range n).filter b).map f)) → Qd D H') : ∀ D, H D = none → LcGo (RZ.ItzT K a b2) (gTup K 2 (gCons (gName i1) (gCons (gName i2) gNil))) tt te vs σ H D (Qd D) := fun D hD => by
  refine lc_it (walk_zipT (K := K) (a := a) (b := b2) (xs := xs) (ys := ys) hn) (fun i H' => Ext H H' ∧ H' D = some (.lst (((List.range i).filter b).map f))) ⟨Ext.upd hD, upd_same⟩ (fun i H' _ pv => ⟨hx.ext pv.1, hy.ext pv.1⟩) (fun i v H' H'' hi pv y => ?_) (fun H' pv => q D H' hD pv.1 pv.2)
  obtain ⟨T, x, y, rfl, hT, rfl, h1, h2⟩ := y
  have eT := Ext.upd (o := .tup [x, y]) hT
  refine ⟨T, [x, y], rfl, SqT.of upd_same, rfl, x, [y], rfl, y, [], rfl, rfl, ?_⟩
  exact lc_turn hD hz hi (hw _ _) (pv.1.trans eT) (eT _ _ pv.2) (ht i x y hi h1 h2 _ (pv.1.trans eT)) fun hb H3 e3 => he i x y hi h1 h2 hb H3 ((pv.1.trans eT).trans e3)
end
end L2

set_option Elab.async false
set_option maxRecDepth 100000
set_option maxHeartbeats 4000000
/-! rules with the kit's own part named, for what stands within a comprehension -/
namespace L2
open PySem PySem.Spec PyProof.Rows
section
variable {X : Cx} {K : PySem.W.Frag}
theorem ix_tupK (h : X.K = K) : IxR X (rIxT K) := by
  subst h
  exact ix_tup
theorem ix_listK (h : X.K = K) : IxR X (rIxL K) := by
  subst h
  exact ix_list
theorem cr_maxK (h : X.K = K) (hc : X.calm = true) : CallR X (.builtin "max") (rMax K) := by
  subst h
  exact cr_max hc
theorem cr_minK (h : X.K = K) (hc : X.calm = true) : CallR X (.builtin "min") (rMin K) := by
  subst h
  exact cr_min hc
theorem pe_fldK {e : Expr} {ta : TE} {f : Str} {pos : Pos} (h : X.K = K) (he : PE X e ta) (hb : attributeBase e f X.env (eval e X.env) = eval e X.env := by rfl) : PE X (.Attribute e f pos) (tFld K ta f) := by
  subst h
  exact pe_fld he hb
def iListK (K : PySem.W.Frag) (tl : TE) : TI := fun σ H R => tl σ H fun x H1 => ∃ a, x = .ref a ∧ (∃ xs, SqL K H1 a xs) ∧ R (Itl K a) H1
theorem pi_listK {tg l : Expr} {tl : TE} (h : X.K = K) (hl : PE X l tl) : PI X tg l (iListK K tl) := by
  subst h
  exact pi_list hl
def rTupOfK (K : PySem.W.Frag) : List V → Hp → VK → Prop := fun xs H Q => ∃ p ys, xs = [.ref p] ∧ ((SqL K H p ys ∧ ∀ l, H l = none → Q (.ref l) (upd H l (.tup ys))) ∨ (SqT K H p ys ∧ Q (.ref p) H))
theorem call_tuple_ofK (h : X.K = K) : CallR X (.type "tuple") (rTupOfK K) := by
  subst h
  exact call_tuple_of
def rListOfK (K : PySem.W.Frag) : List V → Hp → VK → Prop := fun xs H Q => ∃ p ys, xs = [.ref p] ∧ (SqL K H p ys ∨ SqT K H p ys) ∧ ∀ l, H l = none → Q (.ref l) (upd H l (.lst ys))
theorem call_list_ofK (h : X.K = K) : CallR X (.type "list") (rListOfK K) := by
  subst h
  exact call_list_of
end
end L2

set_option Elab.async false
set_option maxRecDepth 100000
set_option maxHeartbeats 4000000
/-! list(zip(a, b)) of two lists -/
namespace PySem
theorem zip_no_len : typeLookup (Value.type "zip") (Str.ofString "__len__") = pure none := am_miss_of_fast (by decide +kernel)
theorem zip_no_hint : typeLookup (Value.type "zip") (Str.ofString "__length_hint__") = pure none := am_miss_of_fast (by decide +kernel)
/-- what has been given out -/
structure ZGiven (h : Heap) (lo : Addr) (acc : Array Value) (xs ys : Array Value) (i : Nat) (as : List Addr) : Prop where
  acc : acc.toList = as.map Value.ref
  len : as.length = i
  rise : List.Pairwise (· < ·) as
  above : ∀ a ∈ as, lo < a
  below : ∀ a ∈ as, a < h.objs.size
  pairs : ∀ (j : Nat) (a : Addr), as[j]? = some a → ∃ x y, xs[j]? = some x ∧ ys[j]? = some y ∧ IsPair h a x y
/-- how the zip stands -/
structure ZSt (h : Heap) (z TI TO i1 i2 l1 l2 : Addr) (xs ys : Array Value) (i : Nat) : Prop where
  first : i = 0 → ∃ a b, IsZip h z TI TO .none ∧ IsPair h TO a b
  later : 0 < i → ∃ T f x y, IsZipHeld h z TI TO T f ∧ IsPair h T x y
  ti : IsPair h TI (.ref i1) (.ref i2)
  it1 : h.IsListIter i1 l1 i
  it2 : h.IsListIter i2 l2 i
  li1 : h.IsList l1 xs
  li2 : h.IsList l2 ys
structure ZOff (S z TI TO i1 i2 l1 l2 : Addr) : Prop where
  z : S ≠ z
  ti : S ≠ TI
  to : S ≠ TO
  i1 : S ≠ i1
  i2 : S ≠ i2
  l1 : S ≠ l1
  l2 : S ≠ l2
section
variable {prog : Program} {w : World} {A : Around} {z TI TO i1 i2 l1 l2 S lo : Addr} {xs ys : Array Value} {i : Nat} {h h' : Heap}
theorem ZGiven.next {acc : Array Value} {as : List Addr} {T : Addr} {x y : Value} (g : ZGiven h lo acc xs ys i as) (hT : T = h.objs.size) (hlo : lo < T) (hsz : h'.objs.size = h.objs.size + 1) (hx : xs[i]? = some x) (hy : ys[i]? = some y) (hp : IsPair h' T x y)
    (hk : ∀ a ∈ as, ∀ x y, IsPair h a x y → IsPair h' a x y) : ZGiven h' lo (acc.push (.ref T)) xs ys (i + 1) (as ++ [T]) where
  acc := by rw [Array.toList_push, g.acc, List.map_append]; rfl
  len := by rw [List.length_append, g.len]; rfl
  rise := by
    rw [List.pairwise_append]
    refine ⟨g.rise, List.pairwise_singleton _ _, fun a ha b hb => ?_⟩
    rw [List.mem_singleton.mp hb, hT]
    exact g.below a ha
  above := fun a ha => by
    rcases List.mem_append.mp ha with ha | ha
    · exact g.above a ha
    · rw [List.mem_singleton.mp ha]
      exact hlo
  below := fun a ha => by
    rw [hsz]
    rcases List.mem_append.mp ha with ha | ha
    · exact Nat.lt_succ_of_lt (g.below a ha)
    · rw [List.mem_singleton.mp ha, hT]
      exact Nat.lt_succ_self _
  pairs := fun j a hj => by
    by_cases e : j < as.length
    · rw [List.getElem?_append_left e] at hj
      obtain ⟨x', y', h1, h2, h3⟩ := g.pairs j a hj
      exact ⟨x', y', h1, h2, hk a (List.mem_of_getElem? hj) _ _ h3⟩
    · have hl := (List.getElem?_eq_some_iff.mp hj).1
      rw [List.length_append] at hl
      have hl1 : [T].length = 1 := rfl
      have ej : j = as.length := by omega
      rw [List.getElem?_append_right (by omega), ej, Nat.sub_self] at hj
      cases hj
      rw [ej, g.len]
      exact ⟨x, y, hx, hy, hp⟩
theorem ZGiven.upd {acc : Array Value} {as : List Addr} {f : Obj → Obj} {oS : Obj} (g : ZGiven h lo acc xs ys i as) (hS : h.get? S = some oS) (hc : oS.cls = .type "list") : ZGiven (h.update S f) lo acc xs ys i as where
  acc := g.acc
  len := g.len
  rise := g.rise
  above := g.above
  below := fun a ha => by rw [Heap.size_update]; exact g.below a ha
  pairs := fun j a hj => by
    obtain ⟨x, y, h1, h2, h3⟩ := g.pairs j a hj
    refine ⟨x, y, h1, h2, ?_⟩
    have ne : S ≠ a := fun e => by
      subst e
      have h4 : h.get? S = some _ := h3
      rw [hS] at h4
      cases h4
      exact absurd (show Value.type "tuple" = Value.type "list" from hc) (by decide)
    show (h.update S f).get? a = _
    rw [Heap.get?_update_other h f ne]
    exact h3
theorem ZSt.upd {f : Obj → Obj} (s : ZSt h z TI TO i1 i2 l1 l2 xs ys i) (o : ZOff S z TI TO i1 i2 l1 l2) {oS : Obj} (hS : h.get? S = some oS) (hc : oS.cls = .type "list") : ZSt (h.update S f) z TI TO i1 i2 l1 l2 xs ys i where
  first := fun e => by
    obtain ⟨a, b, h1, h2⟩ := s.first e
    exact ⟨a, b, (Heap.get?_update_other h f o.z).trans h1, (Heap.get?_update_other h f o.to).trans h2⟩
  later := fun e => by
    obtain ⟨T, b, x, y, h1, h2⟩ := s.later e
    have ne : S ≠ T := fun e => by
      subst e
      have h4 : h.get? S = some _ := h2
      rw [hS] at h4
      cases h4
      exact absurd (show Value.type "tuple" = Value.type "list" from hc) (by decide)
    exact ⟨T, b, x, y, (Heap.get?_update_other h f o.z).trans h1, (Heap.get?_update_other h f ne).trans h2⟩
  ti := (Heap.get?_update_other h f o.ti).trans s.ti
  it1 := by
    obtain ⟨q, h1, h2⟩ := s.it1
    exact ⟨q, (Heap.get?_update_other h f o.i1).trans h1, h2⟩
  it2 := by
    obtain ⟨q, h1, h2⟩ := s.it2
    exact ⟨q, (Heap.get?_update_other h f o.i2).trans h1, h2⟩
  li1 := by
    obtain ⟨q, h1, h2⟩ := s.li1
    exact ⟨q, (Heap.get?_update_other h f o.l1).trans h1, h2⟩
  li2 := by
    obtain ⟨q, h1, h2⟩ := s.li2
    exact ⟨q, (Heap.get?_update_other h f o.l2).trans h1, h2⟩
theorem zip_loop (hh : A.in1.handled = none) (D : ZipApart z TI TO i1 i2 l1 l2) (o : ZOff S z TI TO i1 i2 l1 l2) (res : Value) {n : Nat} (hn : n = min xs.size ys.size) (hz : n + 1 ≤ sizeLine) {g : Array GenState} {d : _} {tk : Nat} {os : _} {R : Result → Shared → Prop} :
    ∀ (k i : Nat) (h : Heap) (acc : Array Value) (c : Nat) (as : List Addr), n - i = k → i ≤ n → ZSt h z TI TO i1 i2 l1 l2 xs ys i → h.get? S = some { cls := .type "list", data := .seq acc c } → lo < h.objs.size → ZGiven h lo acc xs ys i as →
      (∀ (h' : Heap) (acc' : Array Value) (c' : Nat) (as' : List Addr), (∀ b ob, b ≠ S → b ≠ z → b ≠ TO → b ≠ i1 → b ≠ i2 → h.get? b = some ob → h'.get? b = some ob) → h'.get? S = some { cls := .type "list", data := .seq acc' c' } → ZGiven h' lo acc' xs ys n as' → R (.ok (.ret res)) ⟨h', g, d, tk, os⟩) →
      codeAny (model prog w) A (.builtin "list.extend.loop" ⟨[.ref S, .ref z, res], []⟩) R ⟨h, g, d, tk, os⟩ := by
  intro k
  induction k with
  | zero =>
    intro i h acc c as hk hi st hS hlo gv hR
    have ei : i = n := by omega
    subst ei
    refine codeAny_builtin F.entry_extend_loop ?_
    rw [Around.under_plainId F.plain_extend_loop]
    refine wpAny_bind ?_
    have hend : xs[i]? = none ∨ ys[i]? = none := by
      rcases Nat.le_total xs.size ys.size with e | e
      · left
        exact Array.getElem?_eq_none (by omega)
      · right
        exact Array.getElem?_eq_none (by omega)
    by_cases h0 : i = 0
    · obtain ⟨a, b, hz1, hto⟩ := st.first h0
      refine wpAny_pyNext_zip_end hh D hz1 st.ti hto st.it1 st.it2 st.li1 st.li2 hend fun h' hk' => ?_
      refine wpAny_pure (hR h' acc c as (fun b ob b1 b2 b3 b4 b5 e => hk' b ob b2 b3 b4 b5 e) (hk' S _ o.z o.to o.i1 o.i2 hS) ?_)
      have has : as = [] := List.eq_nil_of_length_eq_zero (gv.len.trans h0)
      subst has
      exact ⟨gv.acc, gv.len, gv.rise, gv.above, (fun a ha => by cases ha), fun j a hj => by cases hj⟩
    · obtain ⟨T, f, tx, ty, hz1, hT⟩ := st.later (by omega)
      refine wpAny_pyNext_zip_end_held hh D hz1 hT st.ti st.it1 st.it2 st.li1 st.li2 hend fun h' hk' => ?_
      refine wpAny_pure (hR h' acc c as (fun b ob b1 b2 b3 b4 b5 e => hk' b ob b2 b4 b5 e) (hk' S _ o.z o.i1 o.i2 hS) ?_)
      have keep : ∀ a ∈ as, ∀ x y, IsPair h a x y → IsPair h' a x y := fun a ha x y hp => by
        refine hk' a _ (fun e => ?_) (fun e => ?_) (fun e => ?_) hp
        · subst e
          have q : h.get? a = some _ := hp
          rw [show h.get? a = some _ from hz1] at q
          injection q with q
          injection q with q
          exact absurd q (by decide)
        · subst e
          obtain ⟨ob, q1, q2, _⟩ := st.it1
          rw [show h.get? a = some _ from hp] at q1
          cases q1
          exact absurd (show Value.type "tuple" = Value.type "list_iterator" from q2) (by decide)
        · subst e
          obtain ⟨ob, q1, q2, _⟩ := st.it2
          rw [show h.get? a = some _ from hp] at q1
          cases q1
          exact absurd (show Value.type "tuple" = Value.type "list_iterator" from q2) (by decide)
      refine ⟨gv.acc, gv.len, gv.rise, gv.above, fun a ha => ?_, fun j a hj => ?_⟩
      · obtain ⟨j, hj⟩ := List.getElem?_of_mem ha
        obtain ⟨x, y, _, _, hp⟩ := gv.pairs j a hj
        exact Heap.lt_size (keep a ha _ _ hp)
      · obtain ⟨x, y, h1, h2, hp⟩ := gv.pairs j a hj
        exact ⟨x, y, h1, h2, keep a (List.mem_of_getElem? hj) _ _ hp⟩
  | succ k ih =>
    intro i h acc c as hk hi st hS hlo gv hR
    refine codeAny_builtin F.entry_extend_loop ?_
    rw [Around.under_plainId F.plain_extend_loop]
    refine wpAny_bind ?_
    obtain ⟨x, hx⟩ : ∃ x, xs[i]? = some x := ⟨_, Array.getElem?_eq_getElem (by omega)⟩
    obtain ⟨y, hy⟩ : ∃ y, ys[i]? = some y := ⟨_, Array.getElem?_eq_getElem (by omega)⟩
    have step : ∀ h' : Heap, ZSt h' z TI TO i1 i2 l1 l2 xs ys (i + 1) → IsPair h' h.objs.size x y → h'.objs.size = h.objs.size + 1 → (∀ b ob, b ≠ z → b ≠ TO → b ≠ i1 → b ≠ i2 → h.get? b = some ob → h'.get? b = some ob) → (∀ a ∈ as, ∀ x y, IsPair h a x y → IsPair h' a x y) →
        wpAny (model prog w) A.in1 (do
          Builtin.List.listUpdate (Value.ref S) fun q => q.push (.ref h.objs.size)
          again (Code.builtin "list.extend.loop" ⟨[.ref S, .ref z, res], []⟩)) (fun fin s' => match fin with
          | Fin.done f => R (Except.ok f) s'
          | Fin.again c' => c'.quiet = true ∧ codeAny (model prog w) A c' R s') (fun e s' => R (Except.error e) s') ⟨h', g, d, tk, os⟩ := fun h' st' hp hsz hk' hkp => by
      have hS' : h'.get? S = some { cls := .type "list", data := .seq acc c } := hk' S _ o.z o.to o.i1 o.i2 hS
      have hal : acc.size = i := by
        have e1 := congrArg List.length gv.acc
        rw [List.length_map, gv.len, Array.length_toList] at e1
        exact e1
      refine wpAny_bind (wpAny_updateSeq hS' rfl (wpAny_pure ⟨plainId_quiet F.plain_extend_loop _, ?_⟩) (by omega) (by rw [Array.size_push]; omega))
      have gv' := gv.next (h' := h') rfl hlo hsz hx hy hp hkp
      refine ih (i + 1) (h'.update S (Obj.mapSeq fun q => q.push (.ref h.objs.size))) (acc.push (.ref h.objs.size)) _ (as ++ [h.objs.size]) (by omega) (by omega) (st'.upd o hS' rfl) (Heap.get?_update_self (Obj.mapSeq fun q => q.push (.ref h.objs.size)) hS' rfl) ?_ (gv'.upd hS' rfl) fun h2 acc2 c2 as2 e1 e2 e3 => ?_
      · rw [Heap.size_update, hsz]
        exact Nat.lt_succ_of_lt hlo
      · exact hR h2 acc2 c2 as2 (fun b ob b1 b2 b3 b4 b5 e => e1 b ob b1 b2 b3 b4 b5 ((Heap.get?_update_other h' _ (Ne.symm b1)).trans (hk' b ob b2 b3 b4 b5 e))) e2 e3
    by_cases h0 : i = 0
    · obtain ⟨a, b, hz1, hto⟩ := st.first h0
      have has : as = [] := List.eq_nil_of_length_eq_zero (gv.len.trans h0)
      refine wpAny_pyNext_zip_item D hz1 st.ti hto st.it1 st.it2 st.li1 st.li2 hx hy fun h' a1 a2 a3 a4 a5 a6 a7 => step h' ⟨fun e => absurd e (Nat.succ_ne_zero _), fun _ => ⟨h.objs.size, false, x, y, a1, a5⟩, a7 TI _ D.TIz D.TITO D.TIi1 D.TIi2 st.ti, a3, a4, ?_, ?_⟩ a5 a6 a7 fun a ha => by rw [has] at ha; cases ha
      · obtain ⟨q, h1, h2⟩ := st.li1
        exact ⟨q, a7 l1 q D.l1z D.l1TO D.l1i1 D.l1i2 h1, h2⟩
      · obtain ⟨q, h1, h2⟩ := st.li2
        exact ⟨q, a7 l2 q D.l2z D.l2TO D.l2i1 D.l2i2 h1, h2⟩
    · obtain ⟨T, f, tx, ty, hz1, hT⟩ := st.later (by omega)
      have kp : ∀ (h' : Heap), (∀ b ob, b ≠ z → b ≠ i1 → b ≠ i2 → h.get? b = some ob → h'.get? b = some ob) → ∀ a x y, IsPair h a x y → IsPair h' a x y := fun h' a7 a x y hp => by
        refine a7 a _ (fun e => ?_) (fun e => ?_) (fun e => ?_) hp
        · subst e
          have q : h.get? a = some _ := hp
          rw [show h.get? a = some _ from hz1] at q
          injection q with q
          injection q with q
          exact absurd q (by decide)
        · subst e
          obtain ⟨ob, q1, q2, _⟩ := st.it1
          rw [show h.get? a = some _ from hp] at q1
          cases q1
          exact absurd (show Value.type "tuple" = Value.type "list_iterator" from q2) (by decide)
        · subst e
          obtain ⟨ob, q1, q2, _⟩ := st.it2
          rw [show h.get? a = some _ from hp] at q1
          cases q1
          exact absurd (show Value.type "tuple" = Value.type "list_iterator" from q2) (by decide)
      refine wpAny_pyNext_zip_item_held D hz1 hT st.ti st.it1 st.it2 st.li1 st.li2 hx hy fun h' a1 a3 a4 a5 a6 a7 => step h' ⟨fun e => absurd e (Nat.succ_ne_zero _), fun _ => ⟨T, true, tx, ty, a1, kp h' a7 T tx ty hT⟩, a7 TI _ D.TIz D.TIi1 D.TIi2 st.ti, a3, a4, ?_, ?_⟩ a5 a6 (fun b ob b1 b2 b3 b4 e => a7 b ob b1 b3 b4 e) fun a ha x y hp => kp h' a7 a x y hp
      · obtain ⟨q, h1, h2⟩ := st.li1
        exact ⟨q, a7 l1 q D.l1z D.l1i1 D.l1i2 h1, h2⟩
      · obtain ⟨q, h1, h2⟩ := st.li2
        exact ⟨q, a7 l2 q D.l2z D.l2i1 D.l2i2 h1, h2⟩
theorem list_init_zip (hh : A.in1.handled = none) (D : ZipApart z TI TO i1 i2 l1 l2) (o : ZOff S z TI TO i1 i2 l1 l2) {n : Nat} (hn : n = min xs.size ys.size) (hz : n + 1 ≤ sizeLine) {g : Array GenState} {d : _} {tk : Nat} {os : _} {R : Result → Shared → Prop}
    (st : ZSt h z TI TO i1 i2 l1 l2 xs ys 0) (hS : h.get? S = some { cls := .type "list", data := .seq #[] }) (hlo : lo < h.objs.size)
    (hR : ∀ (h' : Heap) (acc' : Array Value) (c' : Nat) (as' : List Addr), (∀ b ob, b ≠ S → b ≠ z → b ≠ TO → b ≠ i1 → b ≠ i2 → h.get? b = some ob → h'.get? b = some ob) → h'.get? S = some { cls := .type "list", data := .seq acc' c' } → ZGiven h' lo acc' xs ys n as' → R (.ok (.ret .none)) ⟨h', g, d, tk, os⟩) :
    wpAny (model prog w) A.in1 (Builtin.«list.__init__» ⟨[.ref S, .ref z], []⟩) (fun fin s' => match fin with
      | Fin.done f => R (Except.ok f) s'
      | Fin.again c' => c'.quiet = true ∧ codeAny (model prog w) A c' R s') (fun e s' => R (Except.error e) s') ⟨h, g, d, tk, os⟩ := by
  refine wpAny_bind ?_
  unfold Builtin.List.listItems
  refine wpAny_bind (wpAny_seqItems hS rfl (wpAny_pure ?_))
  refine wpAny_bind (wpAny_updateSeq hS rfl ?_)
  refine wpAny_bind (wpAny_letGo ?_)
  obtain ⟨a0, b0, hz0, hto0⟩ := st.first rfl
  have hS1 := Heap.get?_update_self (h := h) (Obj.mapSeq fun _ => #[]) hS rfl
  have st1 := st.upd (f := Obj.mapSeq fun _ => #[]) o hS rfl
  have sz1 : (h.update S (Obj.mapSeq fun _ => #[])).objs.size = h.objs.size := Heap.size_update _ _ _
  have off1 : ∀ b ob, b ≠ S → h.get? b = some ob → (h.update S (Obj.mapSeq fun _ => #[])).get? b = some ob := fun b ob hb e => (Heap.get?_update_other h _ (Ne.symm hb)).trans e
  generalize h.update S (Obj.mapSeq fun _ => #[]) = h1 at hS1 st1 sz1 off1 ⊢
  have hz1 : h1.get? z = some _ := off1 z _ (Ne.symm o.z) hz0
  have hT : ∀ (h2 : Heap) (g2 : _) , h2.get? z = some { cls := Value.type "zip", data := Data.fields #[Value.none, Value.bool false, Value.bool false, Value.ref TI, Value.ref TO] } → (Shared.mk h2 g2 d tk os).TypeIs (.ref z) "zip" := fun h2 g2 e => ⟨_, e, rfl⟩
  refine wpAny_bind (wpAny_typeOf (hT h1 g hz1) ?_)
  have e1 : (Builtin.List.listSameRef (Value.ref S) (Value.ref z) || Value.type "zip" == Value.type "list" || Value.type "zip" == Value.type "tuple") = false := by
    have : Builtin.List.listSameRef (Value.ref S) (Value.ref z) = false := beq_eq_false_iff_ne.mpr o.z
    rw [this]
    rfl
  rw [e1, if_neg (by decide)]
  refine wpAny_bind (wpAny_pyIter_zip hz1 ?_)
  refine wpAny_bind (wpAny_holding ?_)
  refine wpAny_bind (wpAny_specialOf (hT h1 g hz1) zip_no_len ?_)
  refine wpAny_bind (wpAny_specialOf (hT h1 g hz1) zip_no_hint (wpAny_pure ?_))
  rw [if_pos (by rfl)]
  refine wpAny_bind (wpAny_rule ?_)
  refine wpAny_bind ?_
  unfold Builtin.List.listTouch
  refine wpAny_bind (wpAny_updateSeq hS1 rfl ?_)
  have hS2 := Heap.get?_update_self (h := h1) (Obj.mapSeq fun q => q.push Value.none) hS1 rfl
  have st2 := st1.upd (f := Obj.mapSeq fun q => q.push Value.none) o hS1 rfl
  have sz2 : (h1.update S (Obj.mapSeq fun q => q.push Value.none)).objs.size = h1.objs.size := Heap.size_update _ _ _
  have off2 : ∀ b ob, b ≠ S → h1.get? b = some ob → (h1.update S (Obj.mapSeq fun q => q.push Value.none)).get? b = some ob := fun b ob hb e => (Heap.get?_update_other h1 _ (Ne.symm hb)).trans e
  generalize h1.update S (Obj.mapSeq fun q => q.push Value.none) = h2 at hS2 st2 sz2 off2 ⊢
  refine wpAny_updateSeq hS2 rfl ?_
  have hS3 := Heap.get?_update_self (h := h2) (Obj.mapSeq fun q => q.pop) hS2 rfl
  have st3 := st2.upd (f := Obj.mapSeq fun q => q.pop) o hS2 rfl
  have sz3 : (h2.update S (Obj.mapSeq fun q => q.pop)).objs.size = h2.objs.size := Heap.size_update _ _ _
  have off3 : ∀ b ob, b ≠ S → h2.get? b = some ob → (h2.update S (Obj.mapSeq fun q => q.pop)).get? b = some ob := fun b ob hb e => (Heap.get?_update_other h2 _ (Ne.symm hb)).trans e
  refine wpAny_pure ⟨plainId_quiet F.plain_extend_loop _, ?_⟩
  refine zip_loop (lo := lo) hh D o .none hn hz n 0 (h2.update S (Obj.mapSeq fun q => q.pop)) #[] _ [] (Nat.sub_zero n) (Nat.zero_le n) st3 hS3 (by rw [sz3, sz2, sz1]; exact hlo) ⟨rfl, rfl, .nil, (fun _ h => nomatch h), (fun _ h => nomatch h), (fun _ _ h => by cases h)⟩ fun h' acc' c' as' k1 k2 k3 => ?_
  exact hR h' acc' c' as' (fun b ob b1 b2 b3 b4 b5 e => k1 b ob b1 b2 b3 b4 b5 (off3 b ob b1 (off2 b ob b1 (off1 b ob b1 e)))) k2 k3
/-- list(z), z a zip of two lists as it was made -/
theorem call_list_zip {E : Value → Shared → Prop} {Q : Value → Shared → Prop} (hh : A.in1.in1.handled = none) (D : ZipApart z TI TO i1 i2 l1 l2) {n : Nat} (hn : n = min xs.size ys.size) (hz : n + 1 ≤ sizeLine) {s : Shared} (st : ZSt s.heap z TI TO i1 i2 l1 l2 xs ys 0)
    (hQ : ∀ (h' : Heap) (acc' : Array Value) (c' : Nat) (as' : List Addr), (∀ b ob, b ≠ z → b ≠ TO → b ≠ i1 → b ≠ i2 → s.heap.get? b = some ob → h'.get? b = some ob) → h'.get? s.heap.objs.size = some { cls := .type "list", data := .seq acc' c' } → ZGiven h' s.heap.objs.size acc' xs ys n as' → Q (.ref s.heap.objs.size) { s with heap := h' }) :
    wpAny (model prog w) A (call (.type "list") [.ref z]) Q E s := by
  obtain ⟨h, g, d, tk, os⟩ := s
  obtain ⟨a0, b0, hz0, hto0⟩ := st.first rfl
  refine callType_codes F.called_list (F.typeCall_list_1 _) F.entry_list_init (code_list_new (.ref z) (Q₁ := fun v s' => v = .ref h.objs.size ∧ s' = ⟨h.push { cls := .type "list", data := .seq #[] }, g, d, tk, os⟩) ⟨rfl, rfl⟩) fun obj s₁ h₁ => ?_
  obtain ⟨rfl, rfl⟩ := h₁
  have hS := Heap.get?_push_size h (o := { cls := .type "list", data := .seq #[] }) rfl
  have kp : ∀ b ob, h.get? b = some ob → (h.push { cls := Value.type "list", data := Data.seq #[] }).get? b = some ob := fun b ob e => Heap.get?_push_of_some _ e
  have lt : ∀ {b : Addr} {ob : Obj}, h.get? b = some ob → h.objs.size ≠ b := fun e => Nat.ne_of_gt (Heap.lt_size e)
  have o : ZOff h.objs.size z TI TO i1 i2 l1 l2 := ⟨lt hz0, lt st.ti, lt hto0, (by obtain ⟨_, q, _⟩ := st.it1; exact lt q), (by obtain ⟨_, q, _⟩ := st.it2; exact lt q), (by obtain ⟨_, q, _⟩ := st.li1; exact lt q), (by obtain ⟨_, q, _⟩ := st.li2; exact lt q)⟩
  have st' : ZSt (h.push { cls := Value.type "list", data := Data.seq #[] }) z TI TO i1 i2 l1 l2 xs ys 0 := ⟨fun _ => ⟨a0, b0, kp _ _ hz0, kp _ _ hto0⟩, fun e => absurd e (Nat.lt_irrefl _), kp _ _ st.ti, (by obtain ⟨q, q1, q2⟩ := st.it1; exact ⟨q, kp _ _ q1, q2⟩), (by obtain ⟨q, q1, q2⟩ := st.it2; exact ⟨q, kp _ _ q1, q2⟩), (by obtain ⟨q, q1, q2⟩ := st.li1; exact ⟨q, kp _ _ q1, q2⟩), (by obtain ⟨q, q1, q2⟩ := st.li2; exact ⟨q, kp _ _ q1, q2⟩)⟩
  refine ⟨⟨_, hS, rfl⟩, F.args_list_init_2 _ _, list_init_zip (lo := h.objs.size) hh D o hn hz st' hS (by rw [Heap.size_push]; exact Nat.lt_succ_self _) fun h' acc' c' as' k1 k2 k3 => ⟨rfl, ?_⟩⟩
  exact hQ h' acc' c' as' (fun b ob b2 b3 b4 b5 e => k1 b ob (Ne.symm (lt e)) b2 b3 b4 b5 (kp b ob e)) k2 k3
end
end PySem

set_option Elab.async false
set_option maxRecDepth 100000
set_option maxHeartbeats 4000000
/-! tuple(range(a, b, c)), list(range(a, b, c)), list(zip(x, y)) as expressions -/
namespace L2
open PySem PySem.Spec PyProof.Rows
section
variable {X : Cx}
theorem vals3 {x y z : V} {us : List Value} (r : Vals [x, y, z] us) : ∃ u v w, us = [u, v, w] ∧ RelV x u ∧ RelV y v ∧ RelV z w := by
  cases r with
  | cons h1 r =>
    obtain ⟨v, w, rfl, h2, h3⟩ := vals2 r
    exact ⟨_, v, w, rfl, h1, h2, h3⟩
theorem pylong_no {x c : Int} (h : c.natAbs < 1073741824) : Builtin.divisionGoesByPylong x c = false := by
  unfold Builtin.divisionGoesByPylong
  have hd : ¬ (if (c == 0) = true then 0 else c.natAbs.log2 / 30 + 1) > 300 := by
    split
    · omega
    · rename_i h0
      have hc : c.natAbs ≠ 0 := fun e => h0 (by rw [Int.natAbs_eq_zero.mp e]; rfl)
      have : c.natAbs.log2 < 30 := (Nat.log2_lt hc).mpr (by simpa using h)
      omega
  dsimp only
  rw [decide_eq_false hd]
  rfl
theorem prg_3 {e : Expr} {es : List Expr} {ta : TA} {p pos : Pos} (hg : Gl X "range") (hm : X.mg "range" = none) (ha : PA X (e :: es) ta) (he : starEach (e :: es) X.env = (false, eval e X.env) :: starEach es X.env := by rfl) (hpl : (backTo pos (starEach es X.env)).any (·.1) = false := by rfl) :
    PRg3 X (.Call (.Name "range" p) (e :: es) [] pos) (tRg3 ta) := by
  intro pins s σ H Q I h
  refine PyProof.Rows.Call_ (ld_blt I hg hm (u := .type "range") (by rfl) (PyProof.Rows.callWith_type1 (thn (ha.run pos pins s σ H _ I h) fun us s1 ⟨vs, H1, I1, r1, q1⟩ => ?_) he hpl)) rfl
  obtain ⟨a, b, c, rfl, hc, ⟨h1, h2, h3, h4, h5⟩, q⟩ := q1
  obtain ⟨u, v, w, rfl, ⟨t1, rfl⟩, ⟨t2, rfl⟩, ⟨t3, rfl⟩⟩ := vals3 r1
  refine call_range_3 hc ⟨s1.heap.objs.size, a, b, c, t1, t2, t3, H1, rfl, Heap.get?_push_size _ rfl, ?_, q⟩ (.inl (pylong_no h5))
  exact I1.kept (t' := s1.toks) fun b o e => Heap.get?_push_of_some _ e
def rgC (a c : Int) (n : Nat) : List V := (List.range n).map fun (i : Nat) => .int (a + (i : Int) * c)
theorem vals_rgC {a c : Int} {n : Nat} {acc : Array Value} (h : ItemsOf (fun i v => ∃ t, v = Value.int (a + (i : Int) * c) t) acc n) : Vals (rgC a c n) acc.toList := by
  refine vals_of_at ?_ fun j x u hx hu => ?_
  · show (rgC a c n).length = acc.toList.length
    rw [show acc.toList.length = acc.size from rfl, h.1]
    simp [rgC]
  · have hj : j < n := by
      have := (List.getElem?_eq_some_iff.mp hx).1
      simpa [rgC] using this
    obtain ⟨t, rfl⟩ := h.2 j u (by rw [← Array.getElem?_toList]; exact hu)
    unfold rgC at hx
    rw [List.getElem?_map, List.getElem?_range hj] at hx
    cases hx
    exact ⟨t, rfl⟩
def tTupRg3 (te : St → Hp → (Int → Int → Int → Hp → Prop) → Prop) : TE := fun σ H Q => te σ H fun a b c H1 => ∃ n, RgC a b c n ∧ n ≤ 2 ^ 24 ∧ ∀ q, H1 q = none → Q (.ref q) (upd H1 q (.tup (rgC a c n)))
def tLstRg3 (te : St → Hp → (Int → Int → Int → Hp → Prop) → Prop) : TE := fun σ H Q => te σ H fun a b c H1 => ∃ n, RgC a b c n ∧ n ≤ 2 ^ 24 ∧ ∀ q, H1 q = none → Q (.ref q) (upd H1 q (.lst (rgC a c n)))
theorem pe_tupRg3 {e : Expr} {te : St → Hp → (Int → Int → Int → Hp → Prop) → Prop} {p pos : Pos} (hc : X.calm = true) (hg : Gl X "tuple") (hm : X.mg "tuple" = none) (he : PRg3 X e te) (hs : starEach [e] X.env = (false, eval e X.env) :: starEach [] X.env := by rfl) :
    PE X (.Call (.Name "tuple" p) [e] [] pos) (tTupRg3 te) := by
  refine ⟨fun pins s σ H Q I h => ?_⟩
  refine PyProof.Rows.Call_ (ld_blt I hg hm (u := .type "tuple") (by rfl) (PyProof.Rows.callWith_type1 ?_ hs rfl)) rfl
  rw [hs]
  refine Calls.spliced_cons (thn (he pins s σ H _ I h) fun x s1 ⟨r, a, b, c, t, u, v, H1, ex, hr, I1, n, hn, hz, q⟩ => Calls.spliced_nil ?_)
  subst ex
  obtain ⟨_, _, h3, h4⟩ := hn
  refine call_tuple_range (I1.ok.hd hc) hr h3 h4 hz fun h' tk acc hk hacc => ?_
  have I2 := I1.kept (t' := tk) hk
  have hzl : (rgC a c n).length ≤ sizeLine := by
    rw [show (rgC a c n).length = n by simp [rgC]]
    exact Nat.le_trans hz (by decide)
  refine ⟨.ref h'.objs.size, upd H1 h'.objs.size (.tup (rgC a c n)), I2.laid (t' := tk) (fun b o e => Heap.get?_push_of_some _ e) (Nat.le_refl _) ⟨hzl, acc.toList, vals_rgC hacc, ⟨_, Heap.get?_push_size _ rfl, rfl, _, rfl⟩⟩, rfl, q _ (I2.hok.fresh (Nat.le_refl _))⟩
theorem pe_listRg3 {e : Expr} {te : St → Hp → (Int → Int → Int → Hp → Prop) → Prop} {p pos : Pos} (hc : X.calm = true) (hg : Gl X "list") (hm : X.mg "list" = none) (he : PRg3 X e te) (hs : starEach [e] X.env = (false, eval e X.env) :: starEach [] X.env := by rfl) :
    PE X (.Call (.Name "list" p) [e] [] pos) (tLstRg3 te) := by
  refine ⟨fun pins s σ H Q I h => ?_⟩
  refine PyProof.Rows.Call_ (ld_blt I hg hm (u := .type "list") (by rfl) (PyProof.Rows.callWith_type1 ?_ hs rfl)) rfl
  rw [hs]
  refine Calls.spliced_cons (thn (he pins s σ H _ I h) fun x s1 ⟨r, a, b, c, t, u, v, H1, ex, hr, I1, n, hn, hz, q⟩ => Calls.spliced_nil ?_)
  subst ex
  obtain ⟨_, _, h3, h4⟩ := hn
  refine call_list_range (I1.ok.hd hc) hr h3 h4 hz fun h' tk acc c' hk hS hacc => ?_
  have hzl : (rgC a c n).length ≤ sizeLine := by
    rw [show (rgC a c n).length = n by simp [rgC]]
    exact Nat.le_trans hz (by decide)
  refine ⟨.ref s1.heap.objs.size, upd H1 s1.heap.objs.size (.lst (rgC a c n)), I1.laid (t' := tk) hk (Nat.le_refl _) ⟨hzl, acc.toList, c', vals_rgC hacc, hS⟩, rfl, q _ (I1.hok.fresh (Nat.le_refl _))⟩
/-! list(zip(x, y)), two lists of ints -/
theorem zipApart {n la lb : Nat} (h1 : la < n) (h2 : lb < n) : ZipApart (n + 4) (n + 2) (n + 3) n (n + 1) la lb where
  TIz := show (n + 2 : Nat) ≠ n + 4 by omega
  TOz := show (n + 3 : Nat) ≠ n + 4 by omega
  i1z := show (n : Nat) ≠ n + 4 by omega
  i2z := show (n + 1 : Nat) ≠ n + 4 by omega
  TITO := show (n + 2 : Nat) ≠ n + 3 by omega
  TIi1 := show (n + 2 : Nat) ≠ n by omega
  TIi2 := show (n + 2 : Nat) ≠ n + 1 by omega
  TOi1 := show (n + 3 : Nat) ≠ n by omega
  TOi2 := show (n + 3 : Nat) ≠ n + 1 by omega
  i12 := show (n : Nat) ≠ n + 1 by omega
  l1z := show (la : Nat) ≠ n + 4 by omega
  l1TO := show (la : Nat) ≠ n + 3 by omega
  l1i1 := show (la : Nat) ≠ n by omega
  l1i2 := show (la : Nat) ≠ n + 1 by omega
  l2z := show (lb : Nat) ≠ n + 4 by omega
  l2TO := show (lb : Nat) ≠ n + 3 by omega
  l2i1 := show (lb : Nat) ≠ n by omega
  l2i2 := show (lb : Nat) ≠ n + 1 by omega
theorem lt_off {n b : Nat} (h : b < n) : b ≠ n + 4 ∧ b ≠ n + 3 ∧ b ≠ n ∧ b ≠ n + 1 := ⟨by omega, by omega, by omega, by omega⟩
/-- the same heap with k places more, all of them free -/
theorem padded (h : Heap) : ∀ k : Nat, ∃ h2 : Heap, h2.objs.size = h.objs.size + k ∧ (∀ b o, h.get? b = some o → h2.get? b = some o) ∧ ∀ b o, h2.get? b = some o → h.get? b = some o
  | 0 => ⟨h, rfl, fun _ _ e => e, fun _ _ e => e⟩
  | k + 1 => by
    obtain ⟨h2, e1, e2, e3⟩ := padded h k
    refine ⟨h2.push { cls := .none, data := .freed }, by rw [Heap.size_push, e1]; rfl, fun b o e => Heap.get?_push_of_some _ (e2 b o e), fun b o e => e3 b o ?_⟩
    obtain ⟨objs, life⟩ := h2
    unfold Heap.push Heap.get? at e
    dsimp only at e
    rw [Array.getElem?_push] at e
    by_cases hb : b = objs.size
    · rw [if_pos hb] at e
      cases e
    · rw [if_neg hb] at e
      exact e
theorem paired_at {α β : Type} {R : α → β → Prop} : ∀ {as : List α} {qs : List β} {j : Nat} {t : α}, Paired R as qs → as[j]? = some t → ∃ q, qs[j]? = some q ∧ R t q
  | _ :: _, _ :: _, 0, _, .cons h _, e => by
    cases e
    exact ⟨_, rfl, h⟩
  | _ :: _, _ :: _, j + 1, _, .cons _ h, e => by
    obtain ⟨q, h1, h2⟩ := paired_at (j := j) h (by simpa using e)
    exact ⟨q, by simpa using h1, h2⟩
theorem kv_zip : ∀ (xs : List Int) (ys : List Int) (us : List Value), Vals (ys.map V.int) us → KV ((xs.zip ys).map fun p => ((Sum.inl p.1 : Key), V.int p.2)) ((xs.zip us).map fun p => ((Sum.inl p.1 : Key), p.2))
  | [], _, _, _ => .nil
  | _ :: _, [], [], _ => .nil
  | x :: xs, y :: ys, u :: us, .cons h1 h2 => .cons ⟨rfl, h1⟩ (kv_zip xs ys us h2)
def tLstZip (K : PySem.W.Frag) (t : TA) : TE := fun σ H Q => t σ H fun vs H1 => ∃ (la lb : Addr) (xs ys : List Int), vs = [.ref la, .ref lb] ∧ SqL K H1 la (xs.map V.int) ∧ SqL K H1 lb (ys.map V.int) ∧ xs.length = ys.length ∧ xs.length ≤ 1000000 ∧
  ∀ (D : Addr) (as : List Addr) (H2 : Hp), Ext H1 H2 → H2 D = some (.lst (as.map V.ref)) → as.length = xs.length → (∀ (j : Nat) (t : Addr), as[j]? = some t → ∃ x y, xs[j]? = some x ∧ ys[j]? = some y ∧ H2 t = some (.tup [.int x, .int y])) → Q (.ref D) H2
theorem pe_listZip {a : Expr} {es : List Expr} {ta : TA} {p pz zpos pos : Pos} (hc : X.calm = true) (hg : Gl X "list") (hm : X.mg "list" = none) (hg2 : Gl X "zip") (hm2 : X.mg "zip" = none) (ha : PA X (a :: es) ta)
    (hs : starEach [.Call (.Name "zip" pz) (a :: es) [] zpos] X.env = (false, eval (.Call (.Name "zip" pz) (a :: es) [] zpos) X.env) :: starEach [] X.env := by rfl) (he : starEach (a :: es) X.env = (false, eval a X.env) :: starEach es X.env := by rfl) (hpl : (backTo zpos (starEach es X.env)).any (·.1) = false := by rfl) :
    PE X (.Call (.Name "list" p) [.Call (.Name "zip" pz) (a :: es) [] zpos] [] pos) (tLstZip X.K ta) := by
  refine ⟨fun pins s σ H Q I h => ?_⟩
  refine PyProof.Rows.Call_ (ld_blt I hg hm (u := .type "list") (by rfl) (PyProof.Rows.callWith_type1 ?_ hs rfl)) rfl
  rw [hs]
  refine Calls.spliced_cons (PyProof.Rows.Call_ (ld_blt I hg2 hm2 (u := .type "zip") (by rfl) (PyProof.Rows.callWith_type1 (thn (ha.run zpos pins s σ H _ I h) fun us s1 ⟨vs, H1, I1, r1, q1⟩ => ?_) he hpl)) rfl)
  obtain ⟨la, lb, xs, ys, rfl, hxs, hys, hll, hz, q⟩ := q1
  obtain ⟨u1, u2, rfl, r1a, r1b⟩ := vals2 r1
  obtain rfl : u1 = Value.ref la := r1a
  obtain rfl : u2 = Value.ref lb := r1b
  obtain ⟨its1, rv1, pl1, _⟩ := I1.list hxs
  obtain ⟨its2, rv2, pl2, _⟩ := I1.list hys
  have hl1 : its1.length = xs.length := by rw [← rv1.length, List.length_map]
  have hl2 : its2.length = ys.length := by rw [← rv2.length, List.length_map]
  have lt1 : la < s1.heap.objs.size := by obtain ⟨o, _, e, _⟩ := pl1; exact Heap.lt_size e
  have lt2 : lb < s1.heap.objs.size := by obtain ⟨o, _, e, _⟩ := pl2; exact Heap.lt_size e
  refine call_zip_2 pl1.isList pl2.isList fun h2 z1 z2 z3 z4 z5 z6 z7 => Calls.spliced_nil ?_
  have I2 := I1.kept (t' := s1.toks) z7
  have D : ZipApart (s1.heap.objs.size + 4) (s1.heap.objs.size + 2) (s1.heap.objs.size + 3) s1.heap.objs.size (s1.heap.objs.size + 1) la lb := zipApart lt1 lt2
  have st : ZSt h2 (s1.heap.objs.size + 4) (s1.heap.objs.size + 2) (s1.heap.objs.size + 3) s1.heap.objs.size (s1.heap.objs.size + 1) la lb its1.toArray its2.toArray 0 := ⟨fun _ => ⟨_, _, z1, z3⟩, fun e => absurd e (Nat.lt_irrefl _), z2, z4, z5, (by obtain ⟨o, q1, q2⟩ := pl1.isList; exact ⟨o, z7 _ _ q1, q2⟩), (by obtain ⟨o, q1, q2⟩ := pl2.isList; exact ⟨o, z7 _ _ q1, q2⟩)⟩
  refine call_list_zip (n := xs.length) (s := { s1 with heap := h2 }) (I2.ok.hd hc) D (by simp; omega) (Nat.le_trans (Nat.succ_le_succ hz) (by decide)) st fun h3 acc c as k1 k2 k3 => ?_
  obtain ⟨hp, p1, p2, p3⟩ := padded s1.heap 5
  have I3 := I1.kept (h' := hp) (t' := s1.toks) p2
  have hk : ∀ b ob, hp.get? b = some ob → h3.get? b = some ob := fun b ob e => by
    have e1 := p3 b ob e
    obtain ⟨n1, n2, n3, n4⟩ := lt_off (Heap.lt_size e1)
    exact k1 b ob n1 n2 n3 n4 (z7 b ob e1)
  have hsz : hp.objs.size = h2.objs.size := by rw [p1, z6]
  have hG : W.KdxG (mixKind X.prog X.w) ((xs.zip its2).map fun p => ((Sum.inl p.1 : Key), p.2)) hp.objs.size h3 as := by
    rw [hsz]
    refine ⟨k3.rise, k3.above, fun j a hj => ?_⟩
    obtain ⟨x, y, hx, hy, hpair⟩ := k3.pairs j a hj
    have hx' : its1[j]? = some x := by simpa using hx
    have hy' : its2[j]? = some y := by simpa using hy
    obtain ⟨n, hn⟩ : ∃ n, xs[j]? = some n := ⟨_, List.getElem?_eq_getElem (by have := (List.getElem?_eq_some_iff.mp hx').1; omega)⟩
    obtain ⟨u, hu, ru⟩ := rv1.get (i := j) (x := .int n) (by rw [List.getElem?_map, hn]; rfl)
    rw [hx'] at hu
    cases hu
    obtain ⟨t, rfl⟩ := ru
    refine ⟨_, .inl n, y, ?_, ?_, hpair⟩
    · rw [List.getElem?_map, (List.getElem?_zip_eq_some (z := (n, y))).mpr ⟨hn, hy'⟩]
      rfl
    · show (n == n) = true
      exact beq_self_eq_true n
  have hal : as.length = ((xs.zip its2).map fun p => ((Sum.inl p.1 : Key), p.2)).length := by
    rw [k3.len, List.length_map, List.length_zip]
    omega
  obtain ⟨H3, e1, e2, e3, e4, e5, e6, I4⟩ := LiI.items_laid (kvs := (xs.zip ys).map fun p => ((Sum.inl p.1 : Key), V.int p.2)) (tk := s1.toks) (s := { s1 with heap := hp, toks := s1.toks }) I3 (by rw [List.length_map, List.length_zip]; exact Nat.le_trans (Nat.min_le_left _ _) (Nat.le_trans hz (by decide))) (kv_zip xs ys its2 rv2) hk (by rw [show ({ s1 with heap := hp, toks := s1.toks } : Shared).heap.objs.size = h2.objs.size from hsz]; exact k2) hal hG k3.acc
  refine ⟨.ref h2.objs.size, H3, I4, rfl, q h2.objs.size as H3 e1 ?_ k3.len fun j t hj => ?_⟩
  · rw [← hsz]
    exact e5
  · obtain ⟨q', h1, h2'⟩ := paired_at e6 hj
    rw [List.getElem?_map] at h1
    cases hz' : (xs.zip ys)[j]? with
    | none => rw [hz'] at h1; cases h1
    | some p =>
      rw [hz'] at h1
      cases h1
      obtain ⟨h3', h4'⟩ := List.getElem?_zip_eq_some.mp hz'
      exact ⟨p.1, p.2, h3', h4', h2'⟩
end
end L2

set_option Elab.async false
set_option maxRecDepth 100000
set_option maxHeartbeats 4000000
namespace L2
open PySem PySem.Spec PyProof.Rows
section
variable {X : Cx} {K : PySem.W.Frag}
theorem op_in_seqK (h : X.K = K) : OpR X (compareOp .In) (rIn K false) := by
  subst h
  exact op_in_seq
theorem op_notIn_seqK (h : X.K = K) : OpR X (compareOp .NotIn) (rIn K true) := by
  subst h
  exact op_notIn_seq
theorem inV_ints (a : Int) : ∀ ns : List Int, inV (.int a) (ns.map V.int) = decide (a ∈ ns)
  | [] => rfl
  | n :: ns => by
    have ih := inV_ints a ns
    unfold inV at ih ⊢
    rw [List.map_cons, List.any_cons, ih]
    have e : eqV (.int n) (.int a) = decide (n = a) := rfl
    rw [e, Bool.eq_iff_iff]
    simp
    constructor
    · rintro (e | e)
      · exact .inl e.symm
      · exact .inr e
    · rintro (e | e)
      · exact .inl e.symm
      · exact .inr e
theorem flat_ints {ns : List Int} : (ns.map V.int).all flatV = true := by
  rw [List.all_eq_true]
  intro v hv
  obtain ⟨n, _, rfl⟩ := List.mem_map.mp hv
  rfl
end
end L2

set_option Elab.async false
set_option maxRecDepth 100000
set_option maxHeartbeats 4000000
namespace L2
open PySem PySem.Spec PyProof.Rows
section
variable {X : Cx} {K : PySem.W.Frag} {a : Expr} {ta : TE}
/-- a truth test with K named, for what stands within a comprehension -/
def tTruK (K : PySem.W.Frag) (ta : TE) : TT := fun σ H Q => ta σ H fun x H' => ∃ k, TruV K x H' k ∧ Q k H'
theorem pt_truthK (h : X.K = K) (ha : PE X a ta) (he : ∀ whole, isTrue a X.env whole = (do let v ← whole; standAt a.pos; holding [v] (truthy v))) :
    PT X a (tTruK K ta) := by
  subst h
  exact pt_truth ha he
end
end L2

set_option Elab.async false
set_option maxRecDepth 100000
set_option maxHeartbeats 4000000
/-! for over a list or a tuple, one walk for both; the body only adds to the heap -/
namespace L2
open PySem PySem.Spec PyProof.Rows
section
variable {K : PySem.W.Frag} {a : Addr} {xs : List V}
theorem for_sq {g : TG} {tb : TS} {D : Ends} {σ : St} {H : Hp} (hx : SqL K H a xs ∨ SqT K H a xs) (Pv : Nat → St → Hp → Prop) (h0 : Pv 0 σ H) (hE : ∀ i σ' H', Pv i σ' H' → Ext H H')
    (hs : ∀ i x σ' H', xs[i]? = some x → Pv i σ' H' → g x σ' H' fun σ2 H2 => tb { D with nx := Pv (i + 1), ct := Pv (i + 1), bk := D.nx } σ2 H2) (hd : ∀ σ' H', Pv xs.length σ' H' → D.nx σ' H') :
    ((∃ xs, SqL K H a xs) ∧ turnsOf g tb D σ (Itl K a) H) ∨ ((∃ xs, SqT K H a xs) ∧ turnsOf g tb D σ (Itt K a) H) := by
  have step : ∀ i x σ' H' H'', i < xs.length → Pv i σ' H' → YAt xs i H' x H'' → g x σ' H'' fun σ2 H2 => tb { D with nx := Pv (i + 1), ct := Pv (i + 1), bk := D.nx } σ2 H2 := by
    rintro i x σ' H' H'' _ pv ⟨rfl, hx'⟩
    exact hs i x σ' H'' hx' pv
  rcases hx with hx | hx
  · exact .inl ⟨⟨xs, hx⟩, for_it (walk_list (xs := xs)) Pv h0 (fun i σ' H' _ pv => hx.ext (hE i σ' H' pv)) step hd⟩
  · exact .inr ⟨⟨xs, hx⟩, for_it (walk_tup (xs := xs)) Pv h0 (fun i σ' H' _ pv => hx.ext (hE i σ' H' pv)) step hd⟩
end
end L2

set_option Elab.async false
set_option maxRecDepth 100000
set_option maxHeartbeats 4000000
/-! a tuple whose object is known: its methods may be called -/
namespace L2
open PySem PySem.Spec PyProof.Rows
def FrzT (H : Hp) (a : Addr) (ts : List V) : Prop := ∃ o, H a = some (.frz o (.tup ts)) ∧ o.dict = none
theorem FrzT.sqT {K : PySem.W.Frag} {H : Hp} {a : Addr} {ts : List V} (h : FrzT H a ts) : SqT K H a ts := by
  obtain ⟨o, h, _⟩ := h
  exact .inl (.inr ⟨o, h⟩)
theorem FrzT.ext {H H' : Hp} {a : Addr} {ts : List V} (h : FrzT H a ts) (e : Ext H H') : FrzT H' a ts := by
  obtain ⟨o, h, d⟩ := h
  exact ⟨o, e _ _ h, d⟩
def rTupFrz (K : PySem.W.Frag) : List V → Hp → VK → Prop := fun xs H Q => ∃ p ys, xs = [.ref p] ∧ SqL K H p ys ∧ ∀ l o, H l = none → o.dict = none → Q (.ref l) (upd H l (.frz o (.tup ys)))
section
variable {X : Cx}
theorem call_tuple_frz : CallR X (.type "tuple") (rTupFrz X.K) := by
  intro pins s σ H xs us Q I r h
  obtain ⟨p, ys, rfl, hq, q⟩ := h
  obtain ⟨u, rfl, rx⟩ := vals1 r
  cases rx
  obtain ⟨its, r', pl, hz⟩ := I.list hq
  have hlen := r'.length
  refine call_tuple_list pl.isList (fun h' kp => ?_) (by simp only [List.size_toArray] <;> omega)
  have I1 : Inv X pins σ H { s with heap := h' } := I.kept (t' := s.toks) kp
  have I2 : Inv X pins σ (upd H h'.objs.size (.frz { cls := .type "tuple", data := .seq its.toArray } (.tup ys))) { s with heap := h'.push { cls := .type "tuple", data := .seq its.toArray } } :=
    I1.laid (t' := s.toks) (fun b o e => Heap.get?_push_of_some _ e) (Nat.le_refl _) (show ObjOk X.prog X.w _ _ _ (.frz _ (.tup ys)) from ⟨Heap.get?_push_size _ rfl, hz, its, r', IsTup.new _ _⟩)
  exact ⟨.ref h'.objs.size, _, I2, rfl, q _ _ (I1.hok.fresh (Nat.le_refl _)) rfl⟩
def tTM (r : V → List V → Hp → VK → Prop) (to : TE) (t : TA) : TE := fun σ H Q => to σ H fun x H1 => ∃ a ts, x = .ref a ∧ FrzT H1 a ts ∧ t σ H1 fun xs H2 => r x xs H2 Q
variable {o e : Expr} {es : List Expr} {to : TE} {t : TA} {name : Str} {apos cpos : Pos} {id : String} {r : V → List V → Hp → VK → Prop}
theorem pe_tm (slot : Slot "tuple" name id) (hty : typeOf (.builtin id) = pure (.type "method_descriptor")) (hm : MtR X id r) (ho : PE X o to) (ha : PA X (e :: es) t)
    (hbase : attributeBase o name X.env (eval o X.env) = eval o X.env := by rfl)
    (hfew : ((backTo cpos (starEach (e :: es) X.env)).all (fun x => !x.1) && (backToKw cpos (keywordEach [] X.env)).all (fun x => x.1.isSome)
      && decide ((e :: es).length + ([] : List Keyword).length + (if ([] : List Keyword).isEmpty then 0 else 1) < 30)) = true := by rfl)
    (hline : (apos.endLine == cpos.line) = true := by rfl) (hs : starEach (e :: es) X.env = (false, eval e X.env) :: starEach es X.env := by rfl) (hplain : (backTo cpos (starEach es X.env)).any (·.1) = false := by rfl) :
    PE X (.Call (.Attribute o name apos) (e :: es) [] cpos) (tTM r to t) := by
  refine ⟨fun pins s σ H Q I h => ?_⟩
  refine wpAny_Call_method_late hbase hfew hline rfl (thn (ho.run pins s σ H _ I h) fun v s1 ⟨x, H1, I1, r1, a, ts, ex, hf, q1⟩ => ?_)
  subst ex
  obtain ⟨ob, hf, hd⟩ := hf
  obtain ⟨h0, _, its, _, ⟨ob', h0', hc, _⟩⟩ := I1.hok a _ hf
  rw [h0] at h0'
  cases h0'
  cases (show v = Value.ref a from r1)
  refine ⟨"tuple", id, PySem.F.plainAttrs_tuple, slot, hty, ⟨ob, h0, hc⟩, fun b eb => by cases eb; exact ⟨ob, h0, hd⟩, ?_⟩
  have hA := ha.run cpos pins s1 σ H1 _ I1 q1
  rw [hs] at hA ⊢
  refine Calls.callWith_builtin (by show (false || (backTo cpos (starEach es X.env)).any (·.1)) = false; rw [hplain] <;> rfl) (Calls.evalArgs_plain ?_)
  exact thn hA fun us s2 ⟨vs, H2, I2, r2, q2⟩ => hm pins s2 σ H2 (.ref a) vs (.ref a) us Q I2 rfl r2 q2
end
theorem sl_listK {X : Cx} {K : PySem.W.Frag} (h : X.K = K) : SlR X (rSlL K) := by
  subst h
  exact sl_list
section
variable {K : PySem.W.Frag} {a : Addr} {xs : List V}
/-- for over a list or a tuple that the body leaves, though it writes elsewhere -/
theorem for_sqM {g : TG} {tb : TS} {D : Ends} {σ : St} {H0 H : Hp} (hx : SqL K H0 a xs ∨ SqT K H0 a xs) (Pv : Nat → St → Hp → Prop) (h0 : Pv 0 σ H) (hE : ∀ i σ' H', Pv i σ' H' → Ext H0 H')
    (hs : ∀ i x σ' H', xs[i]? = some x → Pv i σ' H' → g x σ' H' fun σ2 H2 => tb { D with nx := Pv (i + 1), ct := Pv (i + 1), bk := D.nx } σ2 H2) (hd : ∀ σ' H', Pv xs.length σ' H' → D.nx σ' H') :
    ((∃ xs, SqL K H a xs) ∧ turnsOf g tb D σ (Itl K a) H) ∨ ((∃ xs, SqT K H a xs) ∧ turnsOf g tb D σ (Itt K a) H) := by
  have step : ∀ i x σ' H' H'', i < xs.length → Pv i σ' H' → YAt xs i H' x H'' → g x σ' H'' fun σ2 H2 => tb { D with nx := Pv (i + 1), ct := Pv (i + 1), bk := D.nx } σ2 H2 := by
    rintro i x σ' H' H'' _ pv ⟨rfl, hx'⟩
    exact hs i x σ' H'' hx' pv
  have e0 := hE 0 _ _ h0
  rcases hx with hx | hx
  · exact .inl ⟨⟨xs, hx.ext e0⟩, for_it (walk_list (xs := xs)) Pv h0 (fun i σ' H' _ pv => hx.ext (hE i σ' H' pv)) step hd⟩
  · exact .inr ⟨⟨xs, hx.ext e0⟩, for_it (walk_tup (xs := xs)) Pv h0 (fun i σ' H' _ pv => hx.ext (hE i σ' H' pv)) step hd⟩
/-- for i, x in enumerate(e), the body leaving e, though it writes elsewhere -/
theorem for_enSqM {g : TG} {tb : TS} {D : Ends} {σ : St} {H0 H : Hp} (hx : SqL K H0 a xs ∨ SqT K H0 a xs) (Pv : Nat → St → Hp → Prop) (h0 : Pv 0 σ H) (hE : ∀ i σ' H', Pv i σ' H' → Ext H0 H')
    (hs : ∀ i x σ' H' T, xs[i]? = some x → Pv i σ' H' → H' T = none → g (.ref T) σ' (upd H' T (.tup [.int (i : Nat), x])) fun σ2 H2 => tb { D with nx := Pv (i + 1), ct := Pv (i + 1), bk := D.nx } σ2 H2) (hd : ∀ σ' H', Pv xs.length σ' H' → D.nx σ' H') :
    ((∃ xs, SqL K H a xs) ∧ turnsOf g tb D σ (Ite K a) H) ∨ ((∃ xs, SqT K H a xs) ∧ turnsOf g tb D σ (Itet K a) H) := by
  have step : ∀ i x σ' H' H'', i < xs.length → Pv i σ' H' → YPair (fun i => some (V.int (i : Nat))) (fun i => xs[i]?) i H' x H'' → g x σ' H'' fun σ2 H2 => tb { D with nx := Pv (i + 1), ct := Pv (i + 1), bk := D.nx } σ2 H2 := by
    rintro i v σ' H' H'' hi pv ⟨T, x, y, rfl, hT, rfl, hx', hy⟩
    cases hx'
    exact hs i y σ' H' T hy pv hT
  have e0 := hE 0 _ _ h0
  rcases hx with hx | hx
  · exact .inl ⟨⟨xs, hx.ext e0⟩, for_it (walk_enum (xs := xs)) Pv h0 (fun i σ' H' _ pv => hx.ext (hE i σ' H' pv)) step hd⟩
  · exact .inr ⟨⟨xs, hx.ext e0⟩, for_it (walk_enT (xs := xs)) Pv h0 (fun i σ' H' _ pv => hx.ext (hE i σ' H' pv)) step hd⟩
end
end L2

set_option Elab.async false
set_option maxRecDepth 100000
set_option maxHeartbeats 4000000
/-! data beside instances within a tuple -/
namespace L2
open PySem PySem.Spec PyProof.Rows
section
variable {X : Cx}
variable {n : Nat}
/-- two things of data -/
def DDat (K : PySem.W.Frag) : EqvB := fun x y H k => ∃ a b d e, x = .ref a ∧ y = .ref b ∧ (a = b → k = true) ∧ Dp K H x d ∧ Dp K H y e ∧ SeqAt.shaped d = true ∧ SeqAt.shaped e = true ∧ k = PyData.eqv d e
theorem rcB_dat : RcB X n (DDat X.K) := by
  intro A pins s σ H x y u v k sb I rx ry d
  obtain ⟨a, b, d, e, rfl, rfl, _, hd, he, sd, se, rfl⟩ := d
  obtain ⟨as, r1⟩ := Dp.reads I d _ u hd rx
  obtain ⟨bs, r2⟩ := Dp.reads I e _ v he ry
  exact SeqAt.compareEq_shaped r1 r2 sd se sb.room.units ⟨rfl, H, I, Ext.rfl'⟩
theorem eqB_dat : EqB X n (DDat X.K) := rcB_dat.eqB fun x y H k d => by
  obtain ⟨a, b, _, _, h1, h2, h3, _⟩ := d
  exact ⟨a, b, h1, h2, h3⟩
theorem EqB.or {D D' : EqvB} (h : EqB X n D) (h' : EqB X n D') : EqB X n (fun x y H k => D x y H k ∨ D' x y H k) := by
  intro A pins s σ H x y u v k sb I rx ry d
  exact d.elim (fun d => h A pins s σ H x y u v k sb I rx ry d) (fun d => h' A pins s σ H x y u v k sb I rx ry d)
theorem MonB.or {D D' : EqvB} (h : MonB D) (h' : MonB D') : MonB (fun x y H k => D x y H k ∨ D' x y H k) := fun x y H H' k e d => d.imp (h x y H H' k e) (h' x y H H' k e)
theorem mon_dat {K : PySem.W.Frag} : MonB (DDat K) := fun x y H H' k e d => by
  obtain ⟨a, b, d, f, h1, h2, h3, hd, he, h4⟩ := d
  exact ⟨a, b, d, f, h1, h2, h3, dp_ext e _ _ hd, dp_ext e _ _ he, h4⟩
end
end L2

set_option Elab.async false
set_option maxRecDepth 100000
set_option maxHeartbeats 4000000
/-! not in, of an own __contains__ -/
namespace L2
open PySem PySem.Spec PyProof.Rows
section
variable {X : Cx} {CX : CXT} {k : Nat} {f C : Addr} {fd : FuncData} {ps : List Str} {sp : Sp}
def rNinO (C : Addr) (sp : Sp) : R2 := fun x y H Q => ∃ a dx fs, y = .ref a ∧ H a = some (.ins C dx fs) ∧ sp [y, x] H (fun v H' => ∃ b, v = .bl b ∧ Q (.bl (!b)) H') E0
theorem op_ninO (F : FnOk X.prog X.w X.K X.mg X.base CX k f fd ps sp) (hs : PySem.W.findIn X.K (.ref C) "__contains__" = some (some (.ref f))) (hf : PySem.W.isFn X.K (.ref f) = true) (hr : Room k X.A) (hb : Binds X.K fd ps []) (hx : Passes CX X E0) : OpR X (compareOp .NotIn) (rNinO C sp) := by
  intro pins s g J x y v u Q I rx ry hq
  obtain ⟨a, dx, fs, rfl, ha, q⟩ := hq
  cases (show u = Value.ref a from ry)
  obtain ⟨mA, O, _⟩ := ins_get I.hok ha
  obtain ⟨od, O, _⟩ := O.look
  show wpAny (model X.prog X.w) X.A (contains (.ref a) v >>= fun b => pure (.bool (!b))) (EP X pins g Q) X.xe s
  refine wpAny_bind (PySem.W.contains_fn I.kIn O hs hf (wpAny_mono (run_at (vs := [.ref a, x]) F hr rfl hb hx I (.cons rfl (.cons rx .nil)) q) (fun r s' z => ?_) fun _ _ e => e))
  obtain ⟨w', J', I', rv, b, rfl, q'⟩ := z
  cases rv
  exact ⟨b, rfl, wpAny_pure ⟨.bl (!b), J', I', rfl, q'⟩⟩
theorem ninO {m : Nat} (O : OwnM X.prog X.w X.K X.mg X.base CX C "__contains__" m ps sp) (hr : Room m X.A) (hx : Passes CX X E0) : OpR X (compareOp .NotIn) (rNinO C sp) := by
  obtain ⟨f, fd, F, M, hi, hb⟩ := O.ex
  exact op_ninO F M.at_ hi hr hb hx
end
end L2

set_option Elab.async false
set_option maxRecDepth 100000
set_option maxHeartbeats 4000000
/-! xs.count(y), over data -/
namespace L2
open PySem PySem.Spec PyProof.Rows
section
variable {X : Cx}
def rCntD (K : PySem.W.Frag) : V → List V → Hp → VK → Prop := fun x xs H Q => ∃ (a : Addr) (y : V) (d : PyData) (ds : List PyData), x = V.ref a ∧ xs = [y] ∧ Dp K H (V.ref a) (.list ds) ∧ Dp K H y d ∧ PyData.plainAll ds = true ∧ d.plain = true ∧ PyData.depthAll ds ≤ 60 ∧ Q (.int ((ds.countP fun z => PyData.eqv z d : Nat) : Int)) H
theorem mt_countD (hu : X.A.units + 64 < cLine) : MtR X "list.count" (rCntD X.K) := by
  intro pins s σ H x xs v us Q I rx rxs h
  obtain ⟨a, y, d, ds, rfl, rfl, hl, hy, sl, sd, hdp, q⟩ := h
  cases rx
  obtain ⟨u, rfl, ru⟩ := rxs.one
  obtain ⟨bs, r1⟩ := Dp.reads I d y u hy ru
  cases hl with
  | lst hs ha =>
    obtain ⟨its, rv, pl, _⟩ := I.list hs
    obtain ⟨as, h4⟩ := Dp.readsAll I ds _ its ha rv
    exact SeqAt.count_list_data pl.isList (by simpa using h4) r1 sl sd (by have := Nat.min_le_left (PyData.depthAll ds) d.depth; omega) ⟨.int _, H, I.tok _, ⟨_, rfl⟩, q⟩
end
end L2

set_option Elab.async false
set_option linter.all false
set_option maxRecDepth 100000
set_option maxHeartbeats 4000000
/-! a generator's for and if -/
namespace L2
open PySem PySem.Spec PyProof.Rows GenW
section
variable {M : Model} {A : Around} {R : GenEnd} {Y : Protocol} {n : Nat} {s₀ s : Shared} {c : Code} {fs : List Frame} {env : Env} {K : Flow → Sem PySem.Fin} {J : Value → Sem PySem.Fin} {gd : Bool → Bool} {lv : List Value → List Value}
/-- the row that an error leaves in a loop's code -/
abbrev marked (env : Env) (e : Value) : Sem PySem.Fin := (do noteFrame e env; theTreesLotGoes e : Sem Unit).bind fun _ => .raise e
/-- what a loop's body goes on to -/
abbrev onward (l : Code) : Flow → Sem PySem.Fin := fun f => match f with
  | .next | .cont => .pure (.again l)
  | .brk => .pure (.done .next)
  | .ret v => .pure (.done (.ret v))
theorem gseg_if {test : Expr} {body orelse : List Stmt} {pos : Pos}
    (h : wpAny M (A.over c fs) (isTrue test env (eval test env)) (fun b s' => Seg M A R Y n s₀ c ((if b = true then execs body env else execs orelse env).wrap K J gd lv) fs s') (fun x s' => Seg M A R Y n s₀ c (J x) fs s') s) :
    Seg M A R Y n s₀ c ((exec (.If test body orelse pos) env).wrap K J gd lv) fs s := by
  rw [exec_If]
  refine seg_bind_wrap (wpAny_standAt ?_)
  refine seg_bind_wrap (wpAny_mono h (fun b s' hb => ?_) fun _ _ hx => hx)
  cases b <;> exact hb
theorem gseg_for {tg iter : Expr} {body : List Stmt} {pos : Pos} (hs : ∀ x, foldedSetIterable iter env x = pure x)
    (h : wpAny M (A.over c fs) (eval iter env) (fun v s1 => wpAny M (A.over c fs) (pyIter v) (fun it s2 => ∀ p, Seg M A R Y n s₀ (.forLoop tg it body [] env) (M.den (.forLoop tg it body [] env))
      (.ret (fun r => ((match r with | .ok f => (.pure f : Sem Flow) | .error e => .raise e).onRaise (cameBack env)).wrap K J gd lv) none (gd false) (lv []) c p [] :: fs) s2) (fun x s' => Seg M A R Y n s₀ c (J x) fs s') s1) (fun x s' => Seg M A R Y n s₀ c (J x) fs s') s) :
    Seg M A R Y n s₀ c ((exec (.For tg iter body [] pos) env).wrap K J gd lv) fs s := by
  rw [exec_For]
  refine seg_bind_wrap (wpAny_standAt ?_)
  refine seg_bind_wrap (wpAny_mono h (fun v s1 h1 => ?_) fun _ _ hx => hx)
  refine seg_bind_wrap (wpAny_of_eq (hs v) ?_)
  refine seg_bind_wrap (wpAny_standAt ?_)
  refine seg_bind_wrap (wpAny_holding (wpAny_mono h1 (fun it s2 h2 => ?_) fun _ _ hx => hx))
  exact seg_call h2
end
section
variable {prog : Program} {w : World} {A : Around} {R : GenEnd} {Y : Protocol} {n : Nat} {s₀ s : Shared} {fs : List Frame} {env : Env}
theorem gseg_turn {tg : Expr} {it : Value} {body : List Stmt}
    (h : wpAny (model prog w) (A.over (.forLoop tg it body [] env) fs) (pyNext it) (fun r s1 => match r with
      | none => Seg (model prog w) A R Y n s₀ (.forLoop tg it body [] env) (.pure (.again (.block [] env))) fs s1
      | some v => wpAny (model prog w) (A.over (.forLoop tg it body [] env) fs) (letOwnedTupleGo tg it v) (fun _ s2 => wpAny (model prog w) (A.over (.forLoop tg it body [] env) fs) (assign tg env v) (fun _ s3 =>
          Seg (model prog w) A R Y n s₀ (.forLoop tg it body [] env) ((execs body env).wrap (onward (.forLoop tg it body [] env)) (marked env) id id) fs s3)
          (fun x s' => Seg (model prog w) A R Y n s₀ (.forLoop tg it body [] env) (marked env x) fs s') s2) (fun x s' => Seg (model prog w) A R Y n s₀ (.forLoop tg it body [] env) (marked env x) fs s') s1)
      (fun x s' => Seg (model prog w) A R Y n s₀ (.forLoop tg it body [] env) (marked env x) fs s') s) :
    Seg (model prog w) A R Y n s₀ (.forLoop tg it body [] env) ((model prog w).den (.forLoop tg it body [] env)) fs s := by
  show Seg _ A R Y n s₀ _ ((forTurn tg it body [] env).onRaise (fun x => do noteFrame x env; theTreesLotGoes x)) fs s
  unfold forTurn
  rw [Sem.onRaise_eq_wrap]
  refine seg_bind_wrap (wpAny_standAt ?_)
  refine seg_bind_wrap (wpAny_onRaise (wpAny_mono h (fun r s1 h1 => ?_) fun _ _ hx => wpAny_standAt hx))
  cases r with
  | none => exact h1
  | some v =>
    refine seg_bind_wrap (wpAny_mono h1 (fun _ s2 h2 => ?_) fun _ _ hx => hx)
    refine seg_bind_wrap (wpAny_mono h2 (fun _ s3 h3 => ?_) fun _ _ hx => hx)
    rw [Sem.bind_eq_wrap', Sem.wrap_wrap]
    rw [Sem.wrap_congr (execs body env) _ _ (K' := onward (.forLoop tg it body [] env)) (H' := marked env) (fun f => by cases f <;> rfl) (fun _ => by rfl)]
    exact h3
end
section
variable {X : Cx} {pos : Pos}
def tGIf (c : TT) (t u : TGn) : TGn := fun D ys σ H => c σ H fun b H1 => if b = true then t D ys σ H1 else u D ys σ H1
theorem gs_if {test : Expr} {body orelse : List Stmt} {tc : TT} {t u : TGn} (hc : PT X test tc) (hb : GSs X body t) (ho : GSs X orelse u) : GS X (.If test body orelse pos) (tGIf tc t u) := by
  refine ⟨fun A S ip R n ys s₀ c fs K J gd lv s σ H D g hn k hI ht => ?_⟩
  refine gseg_if ?_
  rw [g.over]
  obtain ⟨acc, cc, r, I⟩ := hI
  refine wpAny_mono (hc.run _ s σ H _ I ht) (fun b s' hb' => ?_) fun x s' hx => k.exc n s₀ x s' hx
  obtain ⟨H2, I2, q2⟩ := hb'
  cases b with
  | true => exact hb.run A S ip R n ys s₀ c fs K J gd lv s' σ H2 D g hn k ⟨acc, cc, r, I2⟩ q2
  | false => exact ho.run A S ip R n ys s₀ c fs K J gd lv s' σ H2 D g hn k ⟨acc, cc, r, I2⟩ q2
/-- W: what holds at turn i (a measure; what is out; the slots; the heap) -/
def tGFor (wi : TI) (g : TG) (tb : TGn) : TGn := fun D ys σ H => wi σ H fun J H1 => ∃ W : Nat → Nat → List V → St → Hp → Prop, (∃ m, W 0 m ys σ H1) ∧ ∀ i m ys σ H, W i m ys σ H →
  (J.stop i H ∧ D.nx ys σ H) ∨ (J.go i H ∧ ∃ N : List V → St → Hp → Prop, (∀ ys' σ' H', N ys' σ' H' → ∃ m', m' < m ∧ W (i + 1) m' ys' σ' H') ∧ ∀ x H', J.yld i H x H' → g x σ H' fun σ2 H2 => tb { D with nx := N, ct := N, bk := D.nx } ys σ2 H2)
theorem gs_for {tg iter : Expr} {body : List Stmt} {wi : TI} {g : TG} {tb : TGn} (hp : PassesOwn (model X.prog X.w) X.A X.env X.xe) (hc : X.calm = true) (hi : PI X tg iter wi) (hg : PG X tg g) (hb : GSs X body tb)
    (hs : ∀ x, foldedSetIterable iter X.env x = pure x := by intro _; rfl) : GS X (.For tg iter body [] pos) (tGFor wi g tb) := by
  refine ⟨fun A S ip R n ys s₀ c fs K J gd lv s σ H D g0 hn k hI ht => ?_⟩
  refine gseg_for hs ?_
  obtain ⟨acc, cc, r, I⟩ := hI
  rw [g0.over]
  refine wpAny_mono (hi.run _ s σ H _ I ht) (fun v s1 h1 => wpAny_mono h1 (fun itv s2 h2 p => ?_) fun x s' hx => k.exc n s₀ x s' hx) fun x s' hx => k.exc n s₀ x s' hx
  obtain ⟨it, fp, tn, Jt, H2, e, I2, T, st2, f2, W, ⟨m0, w0⟩, turn⟩ := h2
  subst e
  have notS : ∀ b ∈ fp, b ≠ S := fun b hb z => (f2 b hb).2.2.2.2.2 (S, lstObj acc cc) (List.mem_append_right _ List.mem_cons_self) z.symm
  have stat : ∀ {H' : Hp} {acc' : Array Value} {cc' : Nat}, (∀ b ∈ fp, H' b = none) → ∀ b ∈ fp, FpOk X ((S, lstObj acc' cc') :: ip) H' b := fun {H' acc' cc'} hn b hb => by
    obtain ⟨_, f1, f3, f4, f5, f6⟩ := f2 b hb
    refine ⟨hn b hb, f1, f3, f4, f5, fun q hq => ?_⟩
    rcases List.mem_append.mp hq with z | z
    · exact f6 q (List.mem_append_left _ z)
    · rcases List.mem_cons.mp z with z | z
      · rw [z]
        exact f6 (S, lstObj acc cc) (List.mem_append_right _ List.mem_cons_self)
      · exact f6 q (List.mem_append_right _ (List.mem_cons_of_mem _ z))
  have gl := fun (kk : Result → Sem PySem.Fin) => gc_loop (k := kk) (c' := .forLoop tg (.ref it) body [] X.env) (l := lv []) (kp := []) (p := p) g0 rfl rfl
  have gb := fun (kk : Result → Sem PySem.Fin) => gc_loop (k := kk) (c' := .block [] X.env) (l := lv []) (kp := []) (p := p) g0 rfl rfl
  have loop : ∀ (m n i : Nat) (ys : List V) (s₀ s : Shared) (σ : St) (H : Hp), n + ys.length = sizeLine → W i m ys σ H → tn i s.heap → (∀ b ∈ fp, H b = none) → GI X S ip ys σ H s →
      Seg (model X.prog X.w) A R (GY X S) n s₀ (.forLoop tg (.ref it) body [] X.env) ((model X.prog X.w).den (.forLoop tg (.ref it) body [] X.env))
        (.ret (fun r => ((match r with | .ok f => (.pure f : Sem Flow) | .error e => .raise e).onRaise (cameBack X.env)).wrap K J gd lv) none (gd false) (lv []) c p [] :: fs) s := by
    intro m
    induction m using Nat.strongRecOn with
    | ind m ih =>
      intro n i ys s₀ s3 σ3 H3 hn w3 st3 fr3 hI3
      have ee : ∀ (n : Nat) (s₀ : Shared) (x : Value) (s' : Shared), X.xe x s' → Seg (model X.prog X.w) A R (GY X S) n s₀ (.forLoop tg (.ref it) body [] X.env) (marked X.env x)
          (.ret (fun r => ((match r with | .ok f => (.pure f : Sem Flow) | .error e => .raise e).onRaise (cameBack X.env)).wrap K J gd lv) none (gd false) (lv []) c p [] :: fs) s' := fun n s₀ x s' hx => by
        unfold marked
        rw [Sem.bind_eq_wrap]
        refine seg_wrap ?_
        rw [(gl _).over]
        refine wpAny_bind (wpAny_mono (hp x s' hx) (fun _ s'' hcb => wpAny_theTreesLotGoes ?_) fun y s'' hcb => ?_)
        · exact seg_leaf (.error x) (seg_cameBack g0 k hcb)
        · exact seg_leaf (.error y) (seg_cameBack g0 k hcb)
      obtain ⟨acc3, cc3, r3, I3⟩ := hI3
      refine gseg_turn ?_
      rw [(gl _).over]
      rcases turn i m ys σ3 H3 w3 with ⟨stop, qn⟩ | ⟨go, N, hN, step⟩
      · refine wpAny_mono (T.done X rfl rfl rfl hc i _ s3 σ3 H3 X.xe I3 (stat fr3) st3 stop) (fun r s4 hr => ?_) fun x s' hx => ee n s₀ x s' hx
        obtain ⟨rfl, I4⟩ := hr
        refine seg_again rfl ?_
        show Seg _ A R _ n s₀ _ (((execs [] X.env).onRaise (fun x => do noteFrame x X.env; theTreesLotGoes x)) >>= fun f => (.pure (.done f) : Sem PySem.Fin)) _ s4
        exact seg_leaf (.ok .next) (k.ok n ys s₀ s4 .next hn ⟨σ3, H3, ⟨acc3, cc3, r3, I4⟩, qn⟩)
      · refine wpAny_mono (T.item X rfl rfl rfl hc i _ s3 σ3 H3 X.xe I3 (stat fr3) st3 go) (fun r s4 hr => ?_) fun x s' hx => ee n s₀ x s' hx
        obtain ⟨u, rfl, h4⟩ := hr
        refine wpAny_mono h4 (fun _ s5 h5 => ?_) fun x s' hx => ee n s₀ x s' hx
        obtain ⟨x, H5, I5, r5, y5, st5, fr5⟩ := h5
        have I5' := I5.pinned (stat fr5) (T.obj _ _ st5)
        refine wpAny_mono (hg.run _ s5 σ3 H5 x u _ I5' r5 (step x H5 y5)) (fun _ s6 h6 => ?_) fun x s' hx => ee n s₀ x s' hx
        obtain ⟨σ6, H6, I6, q6⟩ := h6
        have g1 := gl (fun r => ((match r with | .ok f => (.pure f : Sem Flow) | .error e => .raise e).onRaise (cameBack X.env)).wrap K J gd lv)
        have gl' : GC X S (ip ++ pinsAt fp s5.heap) A (.forLoop tg (.ref it) body [] X.env) (.ret (fun r => ((match r with | .ok f => (.pure f : Sem Flow) | .error e => .raise e).onRaise (cameBack X.env)).wrap K J gd lv) none (gd false) (lv []) c p [] :: fs) id :=
          ⟨g1.pn, fun q hq => (List.mem_append.mp hq).elim (g1.ip q) fun z => notS q.1 (of_pinsAt z).1, g1.apart, g1.over, g1.split, g1.guard, rfl⟩
        refine hb.run A S (ip ++ pinsAt fp s5.heap) R n ys s₀ _ _ _ _ id id s6 σ6 H6 { D with nx := N, ct := N, bk := D.nx } gl' hn ⟨fun n' ys' s₀' s7 f hn' hs => ?_, fun n' s₀' x s7 hx => ee n' s₀' x s7 hx⟩ ⟨acc3, cc3, r3, I6⟩ q6
        have back : ∀ {σ7 : St} {H7 : Hp}, GI X S (ip ++ pinsAt fp s5.heap) ys' σ7 H7 s7 → GI X S ip ys' σ7 H7 s7 ∧ tn (i + 1) s7.heap ∧ ∀ b ∈ fp, H7 b = none := fun {σ7 H7} h7 => by
          obtain ⟨acc7, cc7, r7, I7⟩ := h7
          have pin : ∀ b ∈ fp, ∀ o, s5.heap.get? b = some o → s7.heap.get? b = some o ∧ H7 b = none := fun b hb o e => by
            obtain ⟨e1, e2, _⟩ := I7.pin (b, o) (List.mem_append_right _ (List.mem_cons_of_mem _ (List.mem_append_right _ (mem_pinsAt hb e))))
            exact ⟨e1, e2⟩
          refine ⟨⟨acc7, cc7, r7, Inv.unpinned (pins := (S, lstObj acc7 cc7) :: ip) (pl := pinsAt fp s5.heap) I7⟩, T.keep _ _ _ st5 fun b hb o e => (pin b hb o e).1, fun b hb => ?_⟩
          obtain ⟨o, e, _⟩ := T.obj _ _ st5 b hb
          exact (pin b hb o e).2
        cases f with
        | next =>
          obtain ⟨σ7, H7, G7, n7⟩ := hs
          obtain ⟨m', hm, w7⟩ := hN ys' σ7 H7 n7
          obtain ⟨G8, st8, fr8⟩ := back G7
          exact seg_again rfl (ih m' hm n' (i + 1) ys' s₀' s7 σ7 H7 hn' w7 st8 fr8 G8)
        | cont =>
          obtain ⟨σ7, H7, G7, n7⟩ := hs
          obtain ⟨m', hm, w7⟩ := hN ys' σ7 H7 n7
          obtain ⟨G8, st8, fr8⟩ := back G7
          exact seg_again rfl (ih m' hm n' (i + 1) ys' s₀' s7 σ7 H7 hn' w7 st8 fr8 G8)
        | brk =>
          obtain ⟨σ7, H7, G7, n7⟩ := hs
          exact seg_leaf (.ok .next) (k.ok n' ys' s₀' s7 .next hn' ⟨σ7, H7, (back G7).1, n7⟩)
        | ret v =>
          obtain ⟨x7, σ7, H7, G7, r7, n7⟩ := hs
          exact seg_leaf (.ok (.ret v)) (k.ok n' ys' s₀' s7 (.ret v) hn' ⟨x7, σ7, H7, (back G7).1, r7, n7⟩)
  exact loop m0 n 0 ys s₀ s2 σ H2 hn w0 st2 (fun b hb => (f2 b hb).1) ⟨acc, cc, r, I2⟩
end
end L2

set_option Elab.async false
set_option linter.all false
set_option maxRecDepth 100000
set_option maxHeartbeats 4000000
/-! max(xs, default=d), min(xs, default=d), ints -/
namespace L2
open PySem PySem.Spec PyProof.Rows
def mxD (d : Int) : List Int → Int
  | [] => d
  | n :: ns => ns.foldl max n
def mnD (d : Int) : List Int → Int
  | [] => d
  | n :: ns => ns.foldl min n
theorem foldl_max (n : Int) : ∀ ns : List Int, (ns.foldl max n = n ∨ ns.foldl max n ∈ ns) ∧ n ≤ ns.foldl max n ∧ ∀ y ∈ ns, y ≤ ns.foldl max n
  | [] => ⟨.inl rfl, Int.le_refl _, fun _ h => nomatch h⟩
  | k :: ns => by
    obtain ⟨h1, h2, h3⟩ := foldl_max (max n k) ns
    rw [List.foldl_cons]
    refine ⟨?_, by omega, fun y hy => ?_⟩
    · rcases h1 with h1 | h1
      · rcases Int.le_total n k with h | h
        · exact .inr (by rw [h1, Int.max_eq_right h]; exact List.mem_cons_self)
        · exact .inl (by rw [h1, Int.max_eq_left h])
      · exact .inr (List.mem_cons_of_mem _ h1)
    · rcases List.mem_cons.mp hy with rfl | hy
      · omega
      · exact h3 y hy
theorem foldl_min (n : Int) : ∀ ns : List Int, (ns.foldl min n = n ∨ ns.foldl min n ∈ ns) ∧ ns.foldl min n ≤ n ∧ ∀ y ∈ ns, ns.foldl min n ≤ y
  | [] => ⟨.inl rfl, Int.le_refl _, fun _ h => nomatch h⟩
  | k :: ns => by
    obtain ⟨h1, h2, h3⟩ := foldl_min (min n k) ns
    rw [List.foldl_cons]
    refine ⟨?_, by omega, fun y hy => ?_⟩
    · rcases h1 with h1 | h1
      · rcases Int.le_total n k with h | h
        · exact .inl (by rw [h1, Int.min_eq_left h])
        · exact .inr (by rw [h1, Int.min_eq_right h]; exact List.mem_cons_self)
      · exact .inr (List.mem_cons_of_mem _ h1)
    · rcases List.mem_cons.mp hy with rfl | hy
      · omega
      · exact h3 y hy
theorem mxD_mem {d : Int} {ns : List Int} (h : ns ≠ []) : mxD d ns ∈ ns ∧ ∀ y ∈ ns, y ≤ mxD d ns := by
  cases ns with
  | nil => exact absurd rfl h
  | cons n ns =>
    obtain ⟨h1, h2, h3⟩ := foldl_max n ns
    refine ⟨?_, fun y hy => ?_⟩
    · rcases h1 with h1 | h1
      · exact List.mem_cons.mpr (.inl h1)
      · exact List.mem_cons_of_mem _ h1
    · rcases List.mem_cons.mp hy with rfl | hy
      · exact h2
      · exact h3 y hy
theorem mnD_mem {d : Int} {ns : List Int} (h : ns ≠ []) : mnD d ns ∈ ns ∧ ∀ y ∈ ns, mnD d ns ≤ y := by
  cases ns with
  | nil => exact absurd rfl h
  | cons n ns =>
    obtain ⟨h1, h2, h3⟩ := foldl_min n ns
    refine ⟨?_, fun y hy => ?_⟩
    · rcases h1 with h1 | h1
      · exact List.mem_cons.mpr (.inl h1)
      · exact List.mem_cons_of_mem _ h1
    · rcases List.mem_cons.mp hy with rfl | hy
      · exact h2
      · exact h3 y hy
section
variable {X : Cx}
def rMxD (K : PySem.W.Frag) (f : Int → List Int → Int) : List V → List V → Hp → VK → Prop := fun vs zs H Q => ∃ (a : Addr) (ns : List Int) (d : Int), vs = [V.ref a] ∧ zs = [.int d] ∧ SqL K H a (ns.map V.int) ∧ Q (.int (f d ns)) H
theorem ints_pd (ns : List Int) : (ns.map V.int).map pd = ns.map PyData.int := by
  rw [List.map_map]
  rfl
theorem ints_alike (ns : List Int) : PySem.W.AlikeAll (ns.map PyData.int) := by
  refine ⟨fun x hx y hy => ?_, fun x hx => ?_⟩
  · obtain ⟨a, _, rfl⟩ := List.mem_map.mp hx
    obtain ⟨b, _, rfl⟩ := List.mem_map.mp hy
    rfl
  · obtain ⟨a, _, rfl⟩ := List.mem_map.mp hx
    exact fun z => nomatch z
theorem ints_dep (ns : List Int) : PyData.depthAll (ns.map PyData.int) = 0 := by
  rw [← ints_pd]
  exact (lay_all fl_ints).2
theorem cr_maxD (hc : X.calm = true) (hu : X.A.units + 64 < cLine) : CallRK X (.builtin "max") [Str.ofString "default"] (rMxD X.K mxD) := by
  intro pins s σ H vs zs us ws Q I r rz h
  obtain ⟨a, ns, d, rfl, rfl, hs, q⟩ := h
  obtain rfl := Vals.ref1 r
  obtain ⟨w1, rfl, e1⟩ := vals1 rz
  obtain ⟨its, rv, hl, _⟩ := I.list hs
  have hd : DpAll X.K H (ns.map V.int) (ns.map PyData.int) := by rw [← ints_pd]; exact dp_all fl_ints
  obtain ⟨as, h4⟩ := Dp.readsAll I _ _ its hd rv
  refine PySem.W.max_list_default (xs := ns.map PyData.int) (I.ok.hd hc) hl.isList (by simpa using h4) (ints_alike ns) (by rw [ints_dep]; omega) (fun he h' tk hk => ?_) (fun y ys i v h' tk bs he hi hr hk => ?_)
  · have hn : ns = [] := List.map_eq_nil_iff.mp he
    subst hn
    exact ⟨.int d, H, I.kept hk, e1, q⟩
  · cases ns with
    | nil => cases he
    | cons n ns =>
      rw [List.map_cons] at he
      injection he with he1 he2
      subst he1 he2
      rw [PySem.W.maxD_ints] at hr
      cases hr
      exact ⟨.int _, H, I.kept hk, ⟨_, rfl⟩, q⟩
theorem cr_minD (hc : X.calm = true) (hu : X.A.units + 64 < cLine) : CallRK X (.builtin "min") [Str.ofString "default"] (rMxD X.K mnD) := by
  intro pins s σ H vs zs us ws Q I r rz h
  obtain ⟨a, ns, d, rfl, rfl, hs, q⟩ := h
  obtain rfl := Vals.ref1 r
  obtain ⟨w1, rfl, e1⟩ := vals1 rz
  obtain ⟨its, rv, hl, _⟩ := I.list hs
  have hd : DpAll X.K H (ns.map V.int) (ns.map PyData.int) := by rw [← ints_pd]; exact dp_all fl_ints
  obtain ⟨as, h4⟩ := Dp.readsAll I _ _ its hd rv
  refine PySem.W.min_list_default (xs := ns.map PyData.int) (I.ok.hd hc) hl.isList (by simpa using h4) (ints_alike ns) (by rw [ints_dep]; omega) (fun he h' tk hk => ?_) (fun y ys i v h' tk bs he hi hr hk => ?_)
  · have hn : ns = [] := List.map_eq_nil_iff.mp he
    subst hn
    exact ⟨.int d, H, I.kept hk, e1, q⟩
  · cases ns with
    | nil => cases he
    | cons n ns =>
      rw [List.map_cons] at he
      injection he with he1 he2
      subst he1 he2
      rw [PySem.W.minD_ints] at hr
      cases hr
      exact ⟨.int _, H, I.kept hk, ⟨_, rfl⟩, q⟩
end
end L2

set_option Elab.async false
set_option linter.all false
set_option maxRecDepth 100000
set_option maxHeartbeats 4000000
/-! a generator def of the top that keeps its promise; list(f(..)) of it -/
namespace L2
open PySem PySem.Spec PyProof.Rows GenW
section
variable {P : Program} {w : World} {K : PySem.W.Frag} {mg : Str → Option Value} {base : Heap}
structure OwnG (P : Program) (w : World) (K : PySem.W.Frag) (mg : Str → Option Value) (base : Heap) (x : Str) (k : Nat) (ps : List Str) (sp : SpG) : Prop where
  ex : ∃ (f : Addr) (fd : FuncData), GFn P w K mg base k f fd ps sp ∧ mg x = some (.ref f) ∧ PySem.W.keepIn K (.ref f) = true ∧ Binds K fd ps []
theorem DefAt.ownG {x : Str} {st : Stmt} {ps : List Str} {k : Nat} {sp : SpG} (D : DefAt K mg x st ps) (h : ∀ f fd, Fun K x x st f fd → GFn P w K mg base k f fd ps sp) : OwnG P w K mg base x k ps sp := by
  obtain ⟨f, fd, F, hm, hb⟩ := D.ex
  exact ⟨f, fd, h f fd F, hm, F.kp, hb⟩
/-- a generator def by its body -/
theorem gfn_fun {x qual : Str} {st : Stmt} {f : Addr} {fd : FuncData} {N ps : List Str} {k : Nat} {sp : SpG} (F : Fun K x qual st f fd) (S : GScope N ps (defScope st)) (len : ∀ vs H Q E, sp vs H Q E → vs.length = ps.length)
    (hbody : ∀ (cdv : Value) (A : Around) (outer : List Env) (s : Shared) (H : Hp) (vs : List V) (Q : List V → Hp → Prop) (E : XK) (pn : List (Addr × Obj)), Room k (A.deeper (envOfC qual (defScope st) s.heap.objs.size f cdv)) → sp vs H Q E →
      ∃ t, GSs (gcxOf P w K mg base N qual (defScope st) f cdv A outer s H E pn) (defBody st) t ∧ t { nx := fun ys _ H' => Q ys H', rt := fun ys v H' => v = .non ∧ Q ys H' } [] (start N vs) H) : GFn P w K mg base (k + 1) f fd ps sp := by
  obtain ⟨oc, od, kV, doc, pm, an, cdv, ct, osl, rfl, lk, hcd⟩ := F.ex
  exact gfn_of lk hcd S len fun A outer s H vs Q E pn hr hsp => hbody cdv A outer s H vs Q E pn hr hsp
end
section
variable {X : Cx} {x nm : Str} {k : Nat} {ps : List Str} {sp : SpG} {e : Expr} {es : List Expr} {t : TA} {p p2 pos pos2 : Pos}
theorem noStop0 {K : PySem.W.Frag} : NoStop K E0 := fun _ _ _ h => False.elim h
/-- list(f(e, ..)) -/
theorem pe_listOwnG (O : OwnG X.prog X.w X.K X.mg X.base x k ps sp) (hr : Room (k + 3) X.A) (ha : PA X (e :: es) t) (hmg : X.mg nm = none) (hgl : Gl X nm := by rfl) (hg : Gl X x := by rfl) (hv : bootBuiltins nm = some (.type "list") := by decide +kernel) (hnm : nm ≠ "__name__" := by decide) (hdb : (nm == ("__debug__" : Str)) = false := by decide) (hdb2 : (x == ("__debug__" : Str)) = false := by decide)
    (he : starEach (e :: es) X.env = (false, eval e X.env) :: starEach es X.env := by rfl) (hpl : (backTo pos (starEach es X.env)).any (·.1) = false := by rfl)
    (he2 : starEach [Expr.Call (.Name x p) (e :: es) [] pos] X.env = (false, eval (Expr.Call (.Name x p) (e :: es) [] pos) X.env) :: starEach [] X.env := by rfl) : PE X (.Call (.Name nm p2) [.Call (.Name x p) (e :: es) [] pos] [] pos2) (tListG (tCallG sp [] E0 t)) := by
  obtain ⟨f, fd, F, hm, hk, hb⟩ := O.ex
  exact pe_listG (pgen_call F (hr.mono (by omega)) hg hm hk hb .nil ha hdb2 he hpl) passL noStop0 hr hgl hmg hv hnm hdb he2
end
section
variable {K : PySem.W.Frag} {g : TG} {tb : TGn} {D : GEnds} {ys : List V} {σ : St} {H : Hp}
theorem gfor_range {lo : Int} {n : Nat} (Pv : Nat → List V → St → Hp → Prop) (h0 : Pv 0 ys σ H) (hs : ∀ i ys σ H, i < n → Pv i ys σ H → g (.int (lo + i)) σ H fun σ2 H2 => tb { D with nx := Pv (i + 1), ct := Pv (i + 1), bk := D.nx } ys σ2 H2) (hd : ∀ ys σ H, Pv n ys σ H → D.nx ys σ H) :
    ∃ W : Nat → Nat → List V → St → Hp → Prop, (∃ m, W 0 m ys σ H) ∧ ∀ i m ys σ H, W i m ys σ H →
      ((Itr lo n).stop i H ∧ D.nx ys σ H) ∨ ((Itr lo n).go i H ∧ ∃ N : List V → St → Hp → Prop, (∀ ys' σ' H', N ys' σ' H' → ∃ m', m' < m ∧ W (i + 1) m' ys' σ' H') ∧ ∀ x H', (Itr lo n).yld i H x H' → g x σ H' fun σ2 H2 => tb { D with nx := N, ct := N, bk := D.nx } ys σ2 H2) := by
  refine ⟨fun i m ys σ H => m = n - i ∧ i ≤ n ∧ Pv i ys σ H, ⟨n - 0, rfl, Nat.zero_le _, h0⟩, ?_⟩
  rintro i m ys σ H ⟨rfl, hi, pv⟩
  by_cases hlt : i < n
  · refine .inr ⟨hlt, Pv (i + 1), fun ys' σ' H' q => ⟨n - (i + 1), by omega, rfl, hlt, q⟩, fun x H' hy => ?_⟩
    obtain ⟨rfl, rfl⟩ := hy
    exact hs i ys σ _ hlt pv
  · have e : i = n := by omega
    subst e
    exact .inl ⟨Nat.le_refl _, hd ys σ H pv⟩
theorem gfor_list {a : Addr} {xs : List V} (Pv : Nat → List V → St → Hp → Prop) (h0 : Pv 0 ys σ H) (hl : ∀ i ys σ H, i ≤ xs.length → Pv i ys σ H → SqL K H a xs) (hs : ∀ i x ys σ H, xs[i]? = some x → Pv i ys σ H → g x σ H fun σ2 H2 => tb { D with nx := Pv (i + 1), ct := Pv (i + 1), bk := D.nx } ys σ2 H2) (hd : ∀ ys σ H, Pv xs.length ys σ H → D.nx ys σ H) :
    ∃ W : Nat → Nat → List V → St → Hp → Prop, (∃ m, W 0 m ys σ H) ∧ ∀ i m ys σ H, W i m ys σ H →
      ((Itl K a).stop i H ∧ D.nx ys σ H) ∨ ((Itl K a).go i H ∧ ∃ N : List V → St → Hp → Prop, (∀ ys' σ' H', N ys' σ' H' → ∃ m', m' < m ∧ W (i + 1) m' ys' σ' H') ∧ ∀ x H', (Itl K a).yld i H x H' → g x σ H' fun σ2 H2 => tb { D with nx := N, ct := N, bk := D.nx } ys σ2 H2) := by
  refine ⟨fun i m ys σ H => m = xs.length - i ∧ i ≤ xs.length ∧ Pv i ys σ H, ⟨xs.length - 0, rfl, Nat.zero_le _, h0⟩, ?_⟩
  rintro i m ys σ H ⟨rfl, hi, pv⟩
  have hq := hl i ys σ H hi pv
  by_cases hlt : i < xs.length
  · have hx : xs[i]? = some xs[i] := List.getElem?_eq_getElem hlt
    refine .inr ⟨⟨xs, xs[i], hq, hx⟩, Pv (i + 1), fun ys' σ' H' q => ⟨xs.length - (i + 1), by omega, rfl, hlt, q⟩, fun x H' hy => ?_⟩
    obtain ⟨rfl, hy⟩ := hy
    exact hs i x ys σ _ (hy xs hq) pv
  · have e : i = xs.length := by omega
    subst e
    exact .inl ⟨⟨xs, hq, Nat.le_refl _⟩, hd ys σ H pv⟩
theorem gfor_tup {a : Addr} {xs : List V} (Pv : Nat → List V → St → Hp → Prop) (h0 : Pv 0 ys σ H) (hl : ∀ i ys σ H, i ≤ xs.length → Pv i ys σ H → SqT K H a xs) (hs : ∀ i x ys σ H, xs[i]? = some x → Pv i ys σ H → g x σ H fun σ2 H2 => tb { D with nx := Pv (i + 1), ct := Pv (i + 1), bk := D.nx } ys σ2 H2) (hd : ∀ ys σ H, Pv xs.length ys σ H → D.nx ys σ H) :
    ∃ W : Nat → Nat → List V → St → Hp → Prop, (∃ m, W 0 m ys σ H) ∧ ∀ i m ys σ H, W i m ys σ H →
      ((Itt K a).stop i H ∧ D.nx ys σ H) ∨ ((Itt K a).go i H ∧ ∃ N : List V → St → Hp → Prop, (∀ ys' σ' H', N ys' σ' H' → ∃ m', m' < m ∧ W (i + 1) m' ys' σ' H') ∧ ∀ x H', (Itt K a).yld i H x H' → g x σ H' fun σ2 H2 => tb { D with nx := N, ct := N, bk := D.nx } ys σ2 H2) := by
  refine ⟨fun i m ys σ H => m = xs.length - i ∧ i ≤ xs.length ∧ Pv i ys σ H, ⟨xs.length - 0, rfl, Nat.zero_le _, h0⟩, ?_⟩
  rintro i m ys σ H ⟨rfl, hi, pv⟩
  have hq := hl i ys σ H hi pv
  by_cases hlt : i < xs.length
  · have hx : xs[i]? = some xs[i] := List.getElem?_eq_getElem hlt
    refine .inr ⟨⟨xs, xs[i], hq, hx⟩, Pv (i + 1), fun ys' σ' H' q => ⟨xs.length - (i + 1), by omega, rfl, hlt, q⟩, fun x H' hy => ?_⟩
    obtain ⟨rfl, hy⟩ := hy
    exact hs i x ys σ _ (hy xs hq) pv
  · have e : i = xs.length := by omega
    subst e
    exact .inl ⟨⟨xs, hq, Nat.le_refl _⟩, hd ys σ H pv⟩
end
end L2

set_option Elab.async false
set_option linter.all false
set_option maxRecDepth 100000
set_option maxHeartbeats 4000000
/-! ==, not in over data, the kit's own part named -/
namespace L2
open PySem PySem.Spec PyProof.Rows
section
variable {X : Cx} {K : PySem.W.Frag}
theorem op_eqDK (h : X.K = K) (hu : X.A.units + 64 < cLine) : OpR X (compareOp .Eq) (rEqD K) := by
  subst h
  exact op_eqD hu
theorem op_neDK (h : X.K = K) (hu : X.A.units + 64 < cLine) : OpR X (compareOp .NotEq) (rNeD K) := by
  subst h
  exact op_neD hu
theorem op_inDK (h : X.K = K) (hu : X.A.units + 65 < cLine) : OpR X (compareOp .In) (rInD K) := by
  subst h
  exact op_inD hu
theorem op_notInDK (h : X.K = K) (hu : X.A.units + 65 < cLine) : OpR X (compareOp .NotIn) (rNotInD K) := by
  subst h
  exact op_notInD hu
end
end L2

set_option Elab.async false
set_option linter.all false
/-! all, any within comprehensions: the kit's own part named -/
namespace L2
open PySem PySem.Spec PyProof.Rows
section
variable {X : Cx} {K : PySem.W.Frag}
theorem cr_allK (h : X.K = K) (hc : X.calm = true) : CallR X (.builtin "all") (rAll K) := by
  subst h
  exact cr_all hc
theorem cr_anyK (h : X.K = K) (hc : X.calm = true) : CallR X (.builtin "any") (rAny K) := by
  subst h
  exact cr_any hc
end
end L2

set_option Elab.async false
set_option linter.all false
set_option maxRecDepth 100000
set_option maxHeartbeats 4000000
/-! own errors with one field whose own base is OverflowError -/
namespace L2
open PySem PySem.Spec PyProof.Rows
open Builtin Builtin.ObjectAttr PySem.W PySem.HandSPX
/-- what stands behind the class itself -/
abbrev ofBack : List Value := [.type "OverflowError", .type "ArithmeticError", .type "Exception", .type "BaseException", .type "object"]
theorem of_calm (self : Value) (C : Addr) : refuseLoop self "__setattr__" (.ref C :: ofBack) = pure () := by
  rw [refuseLoop_ref]
  exact PySem.F.store_OverflowError.passes self
theorem of_has (Y : String) (C : Addr) : (Value.ref C :: ofBack).contains (.type Y) = ofBack.contains (.type Y) := by
  rw [List.contains_cons]
  rfl
section
variable {prog : Program} {w : World} {A : Around} {R : Result → Shared → Prop} {hp : Heap} {g : Array GenState} {d : Drawn} {t : Nat} {os : OsState}
/-- the first field of such an error -/
theorem of_first {K : Frag} {nm : Str} {tk : Tok} {val : Value} {a C : Addr} {parts : Array Value} {cd : ClassData}
    (inK : K.In hp) (at_a : hp.get? a = some { cls := .ref C, data := .fields parts }) (at_C : clsIn K C = some cd) (line : cd.mro = .ref C :: ofBack) (dct : cd.hasDict = true) (free : findIn K (.ref C) nm = some none)
    (goal : ∀ hp2 tk2 dx, (∀ b o, b ≠ a → hp.get? b = some o → hp2.get? b = some o) → hp.objs.size ≤ dx → dx ≠ a → hp2.get? a = some { cls := .ref C, dict := some dx, data := .fields parts } →
      hp2.Ns1 dx (fun y => if y = nm then some val else none) → R (.ok (.ret .none)) ⟨hp2, g, d, tk2, os⟩) :
    codeAny (model prog w) A (.call (.builtin "object.__setattr__") ⟨[.ref a, .str nm tk, val], []⟩) R ⟨hp, g, d, t, os⟩ := by
  have here : InstAt hp a { cls := .ref C, data := .fields parts } C none := ⟨at_a, rfl, rfl, trivial⟩
  have facts := F.store_object
  have full : cd.mro.isEmpty = false := by rw [line]; rfl
  have top : cd.mro.contains (.type "object") = true := by rw [line, of_has]; decide +kernel
  have off : a ≠ hp.objs.size := Nat.ne_of_lt (Heap.lt_size at_a)
  have isObj : Looks (model prog w) hp (isInstance (.ref a) (.type "object")) true :=
    here.type.andThen (looks_mroIn inK (by unfold mroIn; rw [at_C, Option.bind_some, if_neg (by rw [full]; decide), top]))
  refine codeAny_call_builtin facts.slot.plain facts.entry
    (@check_slot (model prog w) _ _ ⟨hp, g, d, t, os⟩ "object.__setattr__" "object" "__setattr__" (.ref a) [.str nm tk, val] [] _ facts.kind facts.split isObj (facts.args (.ref a) (.str nm tk) val) ?_)
  have mroL : Looks (model prog w) hp (mroOf (.ref C)) cd.mro := (looks_clsIn inK at_C).andThen .now
  have taker : Looks (model prog w) hp (storeTaker? none) none := .now
  have data : Looks (model prog w) hp (classData C) cd := looks_clsIn inK at_C
  rw [osa_eq, refuse_eq]
  refine wpAny_bind (wpAny_bind (here.type.at (wpAny_bind (mroL.at ?_))))
  rw [line, of_calm]
  refine wpAny_pure (wpAny_bind (here.type.at (wpAny_bind ((looks_findIn inK free).at (wpAny_bind (taker.at ?_))))))
  show wpAny _ _ (storeInOwnDict (.ref a) (.ref C) (.str nm tk) nm val false) _ _ _
  obtain ⟨c1, c2, c3, c4, c5, c6, c7, c8, c9, c10, c11⟩ := cd
  dsimp only at dct
  subst dct
  unfold storeInOwnDict ownDictForStores
  repeat (first | with_reducible refine store_in_new ?_ ?_ | with_reducible refine wpAny_loadPart_at at_a ?_ | with_reducible refine data.at ?_ | wp_step)
  · exact ⟨_, #[], _, (Heap.get?_update_ne _ _ _ _ off.symm).trans (Heap.get?_push_at rfl rfl), rfl, fun e he => absurd he (by simp), fun _ => rfl⟩
  · intro hp2 tk2 ns2 same
    have at_a2 : (hp.push { cls := .type "dict", data := .dict #[] }).get? a = some { cls := .ref C, data := .fields parts } := Heap.get?_push_of_some _ at_a
    refine goal hp2 tk2 hp.objs.size (fun b o hb ho => ?_) (Nat.le_refl _) off.symm ?_ ns2
    · exact (same.2 b (Nat.ne_of_lt (Heap.lt_size ho))).trans ((Heap.get?_update_ne _ _ _ _ hb).trans (Heap.get?_push_of_some _ ho))
    · exact (same.2 a off).trans (Heap.get?_update_self _ at_a2 rfl)
end
/-- what the top has of such a class -/
structure OofC (K : PySem.W.Frag) (C : Addr) : Prop where
  cls : ∃ nm q N bs sn sub ab col dd k0 k1 k2 k3 k5, K.lookup C = some (excClassObj nm q C N bs ofBack true sn sub ab col dd k0 k1 k2 k3 k5 "OverflowError.__new__")
  sa : findIn K (.ref C) "__setattr__" = some (some (.builtin "object.__setattr__"))
  exC : subIn K (.ref C) (.type "BaseException") = some true
  tyC : typeIn K (.ref C) = some (.type "type")
  kC : keepIn K (.ref C) = true
section
variable {X : Cx} {pins : List (Addr × Obj)} {σ : St} {H : Hp} {s : Shared} {a C : Addr} {f : Str} {y : V} {u : Value} {Q : Unit → Shared → Prop} {E : Value → Shared → Prop} {A : Around}
theorem of_store (T : OofC X.K C) (I : Inv X pins σ H s) (e : H a = some (exo a C none)) (free : findIn X.K (.ref C) f = some none) (ry : RelV y u)
    (goal : ∀ dx s', H dx = none → dx ≠ a → Inv X pins σ (upd (upd H dx (exd dx [(f, y)])) a (exo a C (some dx))) s' → Q () s') : wpAny (model X.prog X.w) A (setAttr (.ref a) f u) Q E s := by
  obtain ⟨nm, q, N, bs, sn, sub, ab, col, dd, k0, k1, k2, k3, k5, at_C⟩ := T.cls
  have data : clsIn X.K C = some { name := nm, bases := bs, mro := .ref C :: ofBack, ns := N, qualname := q, hasDict := true, slotNames := sn, subclasses := sub, abstract := ab, collection := col, hasDel := false } := by
    unfold clsIn
    rw [at_C] <;> rfl
  obtain ⟨t1, ho⟩ := exo_at I.hok e
  obtain ⟨hp, g, d, t, os⟩ := s
  refine set_plain I.kIn (ox := { cls := .ref C, dict := none, data := .fields #[.ref t1, .none, .none, .none, .bool false, .none] }) (od := none) ⟨ho, rfl, rfl, trivial⟩ T.sa ?_
  refine of_first I.kIn ho data rfl rfl free fun hp2 tk2 dx k far ne at_a ns2 => ?_
  have none_dx : H dx = none := I.hok.fresh far
  have old : ∀ {b : Addr} {o : Obj}, hp.get? b = some o → b ≠ dx := fun {b o} z => Nat.ne_of_lt (Nat.lt_of_lt_of_le (Heap.lt_size z) far)
  have other : ∀ {b : Addr}, H b = none → b ≠ a := fun {b} z w => by
    rw [w, e] at z
    cases z
  have U : Un X.fs [] H (upd (upd H dx (exd dx [(f, y)])) a (exo a C (some dx))) hp hp2 :=
    ⟨fun b o z n _ _ => k b o (other n) z, fun b o z n _ _ => ⟨o.slots, k b o (other n) z⟩, fun b o z n _ => by rw [upd_ne (other n), upd_ne (old z)]; exact n,
      fun b o z _ => by
        by_cases hb : b = a
        · rw [hb]
          exact ⟨_, at_a⟩
        · exact ⟨o, k b o hb z⟩,
      fun b xs z => by rw [upd_ne (at_ne e z exo_tup), upd_ne (ne_of_none z none_dx)]; exact z,
      fun b o v z => by rw [upd_ne (at_ne e z exo_frz), upd_ne (ne_of_none z none_dx)]; exact z,
      fun b ps z => ⟨#[], by rw [upd_ne (at_ne e z exo_tbl), upd_ne (ne_of_none z none_dx), z]; simp⟩⟩
  refine goal dx _ none_dx ne (I.un (t' := tk2) U fun b o z => ?_)
  by_cases hb : b = a
  · subst hb
    rw [upd_same] at z
    cases z
    exact exo_ok at_a
  · rw [upd_ne hb] at z
    by_cases hd : b = dx
    · subst hd
      rw [upd_same] at z
      cases z
      exact exd_ok ns2 (relO_put (fs := []) ry fun _ => True.intro)
    · rw [upd_ne hd] at z
      refine (I.hok b o z).stay (fun c v hc w => k c v ?_ w) (fun c hc => ?_) fun c xs hc => ?_
      · rcases hc with hc | hc
        · rw [hc]
          exact hb
        · exact at_ne e hc exo_own
      · rw [upd_ne (at_ne e hc exo_own), upd_ne (ne_of_none hc none_dx)]
        exact hc
      · rw [upd_ne (at_ne e hc exo_tup), upd_ne (ne_of_none hc none_dx)]
        exact hc
end
/-- self.f = e, the one field -/
def tOstO (K : PySem.W.Frag) (f : Str) (to te : TE) : TS := fun D σ H => te σ H fun y H1 => to σ H1 fun x H2 => ∃ a C : Addr, x = .ref a ∧ OofC K C ∧ findIn K (.ref C) f = some none ∧
  H2 a = some (exo a C none) ∧ ∀ dx, H2 dx = none → dx ≠ a → D.nx σ (upd (upd H2 dx (exd dx [(f, y)])) a (exo a C (some dx)))
section
variable {X : Cx} {o e : Expr} {es : List Expr} {to te : TE} {ta : TA} {f : Str} {p p' pos : Pos}
theorem ps_ostO (ho : PE X o to) (he : PE X e te) (hs : swapsWith e (some (.Attribute o f p')) pos.line X.env = pure false := by rfl) : PS X (.Assign [.Attribute o f p'] e pos) (tOstO X.K f to te) := by
  refine ⟨fun pins s σ H D I h => ?_⟩
  refine plainObj_wpAny_Assign_Attribute (thn (he.run pins s σ H _ I h) fun v s1 ⟨y, H1, I1, r1, q1⟩ => thn (ho.run pins s1 σ H1 _ I1 q1) fun u s2 ⟨x, H2, I2, r2, a, C, ex, T, free, ea, q⟩ => ?_) hs
  subst ex
  obtain rfl : u = Value.ref a := r2
  exact of_store T I2 ea free r1 fun dx s' n ne J => ⟨σ, _, J, q dx n ne⟩
/-- C(e, ..) of such a class -/
theorem pmk_oof {CX : CXT} {x : Str} {C fI : Addr} {k : Nat} {fd : FuncData} {ps : List Str} {sp : Sp} {ds : List Value} {dvs : List V} (T : OofC X.K C) (hasI : findIn X.K (.ref C) "__init__" = some (some (.ref fI))) (isF : typeIn X.K (.ref fI) = some (.type "function"))
    (G : FnOk X.prog X.w X.K X.mg X.base CX k fI fd ps sp) (room : Room (k + 1) X.A) (bind : Binds X.K fd ps ds) (dflt : Vals dvs ds) (pass : Passes CX X (fun _ _ _ => False)) (hg : Gl X x) (hm : X.mg x = some (.ref C)) (ha : PA X (e :: es) ta)
    (hdb : (x == ("__debug__" : Str)) = false := by decide) (he : starEach (e :: es) X.env = (false, eval e X.env) :: starEach es X.env := by rfl) (hpl : (backTo pos (starEach es X.env)).any (·.1) = false := by rfl) :
    PMk X (.Call (.Name x p) (e :: es) [] pos) (tMkO C sp dvs ta) := by
  intro pins s σ H Q I h
  obtain ⟨nm, q, N, bs, sn, sub, ab, col, dd, k0, k1, k2, k3, k5, at_C⟩ := T.cls
  refine wpAny_Call_Name_kw (ld_glob I hg hm ?_ hdb)
  refine callWith_K (h₀ := X.base) I.ok.mod.kin T.kC (thn (ha.run pos pins s σ H _ I h) fun us s1 ⟨vs, H1, I1, r1, hz, q1⟩ => ⟨I1.kIn, ?_⟩) he hpl
  show wpAny _ _ (call (.ref C) us) _ _ _
  obtain ⟨hp, g, dr, tk, os⟩ := s1
  have up1 : hp.objs.size ≤ hp.objs.size + 1 := Nat.le_succ _
  have free1 : H1 (hp.objs.size + 1) = none := I1.hok.fresh up1
  have want := q1 (hp.objs.size + 1) free1
  have kk : ∀ b o, hp.get? b = some o → ((hp.push (kdv_tup us)).push (excO C hp.objs.size)).get? b = some o := fun b o z => Heap.get?_push_of_some _ (Heap.get?_push_of_some _ z)
  have there : ((hp.push (kdv_tup us)).push (excO C hp.objs.size)).get? (hp.objs.size + 1) = some (excO C hp.objs.size) := by heap_get
  have I2 : Inv X pins σ (upd H1 (hp.objs.size + 1) (exo (hp.objs.size + 1) C none)) ⟨(hp.push (kdv_tup us)).push (excO C hp.objs.size), g, dr, tk, os⟩ :=
    I1.laid (t' := tk) (a := hp.objs.size + 1) (o := exo (hp.objs.size + 1) C none) (h' := (hp.push (kdv_tup us)).push (excO C hp.objs.size)) kk up1 (exo_ok there)
  have r2 : Vals (V.ref (hp.objs.size + 1) :: (vs ++ dvs)) (Value.ref (hp.objs.size + 1) :: (us ++ ds)) := .cons rfl (r1.append dflt)
  have many : (Value.ref (hp.objs.size + 1) :: us ++ ds).length = ps.length := by
    have z := r2.length
    rw [G.len _ _ _ _ want] at z
    exact z.symm
  have small : us.length ≤ sizeLine := by
    rw [← Paired.length r1, sizeLine_eq]
    omega
  refine wpAny_call (call_own F.excBase_OverflowError (fun Y => rfl) (I1.kIn _ _ at_C) (looks_findIn I1.kIn hasI) (fun self => bind_fn I1.kIn self isF) small
    (codeAny_mono (G.run _ X.stack _ _ ⟨Value.ref (hp.objs.size + 1) :: us, []⟩ (Value.ref (hp.objs.size + 1) :: (us ++ ds)) _ _ (fun _ _ _ => False) (room.make C us []) (I2.env0.make C us []) (bind _ (Value.ref (hp.objs.size + 1) :: us) I2.kIn many) r2 want) fun r s' hq' => ?_))
  cases r with
  | error er => exact pass pins σ _ _ er s' I2 hq'
  | ok fl =>
    cases fl with
    | ret u =>
      obtain ⟨v, H2, os2, bare2, un2, hok2, rv, ev, dd, fs, ea, ed, hd1, q2⟩ := hq'
      subst ev
      obtain ⟨h2, g2, d2, t2, os'⟩ := s'
      exact ⟨rv, mk_end (raises_own T.exC T.tyC) I1 up1 kk un2 hok2 os2 bare2 ea ed hd1 q2⟩
    | next => exact False.elim hq'
    | brk => exact False.elim hq'
    | cont => exact False.elim hq'
end
/-- all that is asked of the class x of such errors at C, whose field is f -/
structure OCls (P : Program) (w : World) (K : PySem.W.Frag) (mg : Str → Option Value) (base : Heap) (x f : Str) (C : Addr) : Prop where
  ox : OofC K C
  gC : mg x = some (.ref C)
  noA : findIn K (.ref C) f = some none
  ec : ExcC K C
  ini : ∃ (fI : Addr) (fd : FuncData), findIn K (.ref C) "__init__" = some (some (.ref fI)) ∧ typeIn K (.ref fI) = some (.type "function") ∧ FnOk P w K mg base CX0 1 fI fd ["self", f] (spXI C f) ∧ Binds K fd ["self", f] []
theorem OCls.xf {P : Program} {w : World} {K : PySem.W.Frag} {mg : Str → Option Value} {base : Heap} {x f : Str} {C : Addr} (T : OCls P w K mg base x f C) : XfC K C := ⟨T.ec.hg, T.ec.hk, T.ec.hs, T.ec.hd⟩
theorem pmk_O {X : Cx} {C : Addr} {x f : Str} {e : Expr} {te : TE} {p pos : Pos} (T : OCls X.prog X.w X.K X.mg X.base x f C) (room : Room 2 X.A) (he : PE X e te) (hg : Gl X x) (hdb : (x == ("__debug__" : Str)) = false := by decide)
    (hs : starEach [e] X.env = (false, eval e X.env) :: starEach [] X.env := by rfl) (hpl : (backTo pos (starEach [] X.env)).any (·.1) = false := by rfl) :
    PMk X (.Call (.Name x p) [e] [] pos) (tMkO C (spXI C f) [] (tCons te tNil)) := by
  obtain ⟨fI, fd, i1, i2, G, b⟩ := T.ini
  exact pmk_oof (dvs := []) (ds := []) T.ox i1 i2 G room b .nil pass0 hg T.gC (pa_cons he pa_nil hs) hdb hs hpl
/-- what the top has written of it -/
structure XOt (K : PySem.W.Frag) (mg : Str → Option Value) (x f : Str) (C : Addr) (st : Stmt) (qual : Str) : Prop where
  ox : OofC K C
  gC : mg x = some (.ref C)
  noA : findIn K (.ref C) f = some none
  ec : ExcC K C
  tI : ∃ fI, findIn K (.ref C) "__init__" = some (some (.ref fI)) ∧ typeIn K (.ref fI) = some (.type "function") ∧ ∃ fd, Fun K "__init__" qual st fI fd ∧ Binds K fd ["self", f] []
theorem XOt.cls {P : Program} {w : World} {K : PySem.W.Frag} {mg : Str → Option Value} {base : Heap} {x f : Str} {C : Addr} {st : Stmt} {qual : Str} (T : XOt K mg x f C st qual) (h : ∀ fI fd, Fun K "__init__" qual st fI fd → FnOk P w K mg base CX0 1 fI fd ["self", f] (spXI C f)) :
    OCls P w K mg base x f C := by
  obtain ⟨fI, i1, i2, fd, G, b⟩ := T.tI
  exact ⟨T.ox, T.gC, T.noA, T.ec, fI, fd, i1, i2, h fI fd G, b⟩
end L2

set_option Elab.async false
set_option linter.all false
set_option maxRecDepth 100000
/-! the bookkeeping of a walk over a list, whatever a turn's reading is -/
namespace L2
open PySem PySem.Spec PyProof.Rows
theorem steps_list {K : PySem.W.Frag} {a : Addr} {xs : List V} {H0 : Hp} {Qd : Hp → Prop} {step : V → Hp → (Hp → Prop) → Prop} (Pv : Nat → Hp → Prop) (h0 : Pv 0 H0) (hl : ∀ i H, i ≤ xs.length → Pv i H → SqL K H a xs)
    (hs : ∀ i x H, xs[i]? = some x → Pv i H → step x H (Pv (i + 1))) (hd : ∀ H, Pv xs.length H → Qd H) :
    ∃ W : Nat → Nat → Hp → Prop, (∃ m, W 0 m H0) ∧ ∀ i m H, W i m H →
      ((Itl K a).stop i H ∧ Qd H) ∨ ((Itl K a).go i H ∧ ∃ N : Hp → Prop, (∀ H', N H' → ∃ m', m' < m ∧ W (i + 1) m' H') ∧ ∀ x H', (Itl K a).yld i H x H' → step x H' N) := by
  refine ⟨fun i m H => m + i = xs.length ∧ Pv i H, ⟨xs.length, rfl, h0⟩, ?_⟩
  rintro i m H ⟨hm, pv⟩
  have q := hl i H (by omega) pv
  rcases Nat.lt_or_ge i xs.length with h | h
  · have hx : xs[i]? = some xs[i] := List.getElem?_eq_getElem h
    refine .inr ⟨⟨xs, xs[i], q, hx⟩, Pv (i + 1), fun H' pv' => ⟨m - 1, by omega, by omega, pv'⟩, fun x H' y => ?_⟩
    obtain ⟨y1, y2⟩ := y
    subst y1
    exact hs i x _ (y2 xs q) pv
  · obtain rfl : i = xs.length := by omega
    exact .inl ⟨⟨xs, q, Nat.le_refl _⟩, hd H pv⟩
def rLenK (K : PySem.W.Frag) : List V → Hp → VK → Prop := fun xs H Q => ∃ p ys, xs = [.ref p] ∧ (SqL K H p ys ∨ SqT K H p ys) ∧ Q (.int ys.length) H
theorem call_len_seqK {X : Cx} {K : PySem.W.Frag} (h : X.K = K) : CallR X (.builtin "len") (rLenK K) := by
  subst h
  exact call_len_seq
end L2

set_option Elab.async false
set_option linter.all false
set_option maxRecDepth 100000
set_option maxHeartbeats 4000000
/-! list(f(..)) of a generator def that may raise, in a try -/
namespace L2
open PySem PySem.Spec PyProof.Rows GenW
def tListGS (tg : XK → TGen) (E : St → XK) : TE := fun σ H Q => tg (E σ) σ H fun out H2 => ∀ p, H2 p = none → Q (.ref p) (upd H2 p (.lst out))
section
variable {X : Cx} {k : Nat} {p p2 pos pos2 : Pos} {e : Expr} {x nm : Str} {es : List Expr}
theorem pe_listGS {tg : XK → TGen} {E : St → XK} (made : ∀ E, PGen X k e (tg E) E) (pass : ∀ σ, PassesAt (CX X.prog X.w) X σ (E σ)) (nostop : ∀ σ, NoStop X.K (E σ)) (room : Room (k + 3) X.A) (hg : Gl X nm) (hmg : X.mg nm = none) (hv : bootBuiltins nm = some (.type "list"))
    (hnm : nm ≠ "__name__" := by decide) (hdb : (nm == ("__debug__" : Str)) = false := by decide) (he : starEach [e] X.env = (false, eval e X.env) :: starEach [] X.env := by rfl) : PE X (.Call (.Name nm p) [e] [] pos) (tListGS tg E) := by
  refine ⟨fun pins st σ H Q I want => ?_⟩
  refine wpAny_Call_Name_kw (ld_blt I hg hmg hv ?_ hnm hdb)
  refine PyProof.Rows.callWith_type1 ?_ he rfl
  rw [he]
  show wpAny _ _ (spliced ((false, eval e X.env) :: backTo pos (starEach [] X.env))) _ _ st
  refine Calls.spliced_cons (thn ((made (E σ)).run pins st σ H _ I want) fun u st1 ⟨H1, sc, ex, I1, exOk, gen⟩ => ?_)
  refine Calls.spliced_nil ?_
  have grown : sc.heap.objs.size ≤ st1.heap.objs.size := by
    obtain ⟨a, g, c, _, g1, g2, _⟩ := gen
    exact Nat.le_trans g1 (Nat.le_of_lt g2)
  refine call_list_new room I1.ok.frames gen (fun S st2 acc c H' ys a0 a1 a2 a3 a4 a5 a6 a7 a8 a9 => ?_) fun er st2 g left => ?_
  · exact ⟨.ref S, upd H' S (.lst ys), I1.drained (Nat.le_trans grown a0) a3 a1 a2 exOk a4 a5 a6 a7 a8, rfl, a9 S a8⟩
  · have kin : X.K.In st2.heap := by
      obtain ⟨a, B, H', cls, d, _, fl, _, ub, _⟩ := id left
      refine I1.ok.mod.kin.keeps fun b o eb => fl.1 b o (ub.keep b o (I1.bs b o eb).1 (I1.bs b o eb).2 fun hm => ?_)
      rcases List.mem_cons.mp (I1.stkSub b hm) with z | z
      · have z1 := Heap.lt_size eb
        have z2 := Nat.le_trans I1.ok.bsz I1.ok.above
        rw [z] at z1
        exact absurd (Nat.lt_of_lt_of_le z1 z2) (Nat.lt_irrefl _)
      · exact I1.ok.nofr eb z
    refine ⟨notStop_of (nostop σ) kin left, pass σ pins H1 sc er _ I1 ?_⟩
    obtain ⟨a, B, H', cls, d, z1, fl, z2, ub, z3, z4, z5, z6⟩ := left
    exact ⟨a, B, H', cls, d, z1, fl, z2, ub, z3, z4, allBare_setGen z5 rfl, z6⟩
/-- what is wished for, of errors that are no StopIteration -/
def noStopW (K : PySem.W.Frag) (W : WX) : WX := fun cls d σ H => PySem.W.subIn K cls (.type "StopIteration") = some false ∧ W cls d σ H
theorem pe_listOwnGS {ps : List Str} {sp : SpG} {t : TA} {W : WX} (O : OwnG X.prog X.w X.K X.mg X.base x k ps sp) (room : Room (k + 3) X.A) (tk : Takes X W) (ha : PA X (e :: es) t) (hmg : X.mg nm = none) (hgl : Gl X nm := by rfl) (hg : Gl X x := by rfl) (hv : bootBuiltins nm = some (.type "list") := by decide +kernel)
    (hnm : nm ≠ "__name__" := by decide) (hdb : (nm == ("__debug__" : Str)) = false := by decide) (hdb2 : (x == ("__debug__" : Str)) = false := by decide)
    (he : starEach (e :: es) X.env = (false, eval e X.env) :: starEach es X.env := by rfl) (hpl : (backTo pos (starEach es X.env)).any (·.1) = false := by rfl)
    (he2 : starEach [Expr.Call (.Name x p) (e :: es) [] pos] X.env = (false, eval (Expr.Call (.Name x p) (e :: es) [] pos) X.env) :: starEach [] X.env := by rfl) :
    PE X (.Call (.Name nm p2) [.Call (.Name x p) (e :: es) [] pos] [] pos2) (tListGS (fun E => tCallG sp [] E t) (WE (noStopW X.K W))) := by
  obtain ⟨f, fd, F, hm, hk, hb⟩ := O.ex
  exact pe_listGS (fun E => pgen_call (E := E) F (room.mono (by omega)) hg hm hk hb .nil ha hdb2 he hpl) (fun σ => passAt (tk.imp fun _ _ _ _ h => h.2) σ) (fun σ cls d H h => h.1) room hgl hmg hv hnm hdb he2
theorem pe_listOwnGSK {K : PySem.W.Frag} {ps : List Str} {sp : SpG} {t : TA} {W : WX} (hK : X.K = K) (O : OwnG X.prog X.w X.K X.mg X.base x k ps sp) (room : Room (k + 3) X.A) (tk : Takes X W) (ha : PA X (e :: es) t) (hmg : X.mg nm = none) (hgl : Gl X nm := by rfl) (hg : Gl X x := by rfl) (hv : bootBuiltins nm = some (.type "list") := by decide +kernel)
    (hnm : nm ≠ "__name__" := by decide) (hdb : (nm == ("__debug__" : Str)) = false := by decide) (hdb2 : (x == ("__debug__" : Str)) = false := by decide)
    (he : starEach (e :: es) X.env = (false, eval e X.env) :: starEach es X.env := by rfl) (hpl : (backTo pos (starEach es X.env)).any (·.1) = false := by rfl)
    (he2 : starEach [Expr.Call (.Name x p) (e :: es) [] pos] X.env = (false, eval (Expr.Call (.Name x p) (e :: es) [] pos) X.env) :: starEach [] X.env := by rfl) :
    PE X (.Call (.Name nm p2) [.Call (.Name x p) (e :: es) [] pos] [] pos2) (tListGS (fun E => tCallG sp [] E t) (WE (noStopW K W))) := by
  subst hK
  exact pe_listOwnGS O room tk ha hmg hgl hg hv hnm hdb hdb2 he hpl he2
end
section
variable {X : Cx} {K : PySem.W.Frag}
theorem op_ltTK (h : X.K = K) (hu : X.A.units < cLine) : OpR X (compareOp .Lt) (rLtT K) := by
  subst h
  exact op_ltT hu
end
end L2

set_option Elab.async false
set_option linter.all false
set_option maxRecDepth 100000
set_option maxHeartbeats 4000000
/-! set(list of ints) as a value; a tuple read backwards -/
namespace L2
open PySem PySem.Spec PyProof.Rows
section
variable {P : Program} {w : World} {A : Around} {E : Value → Shared → Prop} {s : Shared}
/-- the object that set(..) begins with -/
abbrev bareSet (w : World) : Obj := { cls := .type "set", dict := none, data := .set #[] 0 (.fresh 0 0 (!w.params.followText "set-order")) }
theorem set_of_list {l : Addr} {items : Array Value} (ns : List Int) {Q : Value → Shared → Prop} (calm : A.handled = none) (isL : s.heap.IsList l items) (areI : IntsAre items.toList ns) (few : ns.length + 1 < scanBound)
    (goal : ∀ (hp : Heap) (tk c : Nat), SetR w hp s.heap.objs.size (fun j => decide (j ∈ ns)) c → c ≤ ns.length → (∀ b o, s.heap.get? b = some o → hp.get? b = some o) → Q (.ref s.heap.objs.size) { s with heap := hp, toks := tk }) :
    wpAny (model P w) A (call (.type "set") [.ref l]) Q E s := by
  have same : items.size = ns.length := by
    have z := IntsAre.length areI
    rw [Array.length_toList] at z
    exact z
  obtain ⟨c, tl, mroS⟩ := F.called_set.mro
  have madeS := F.called_set.made
  have subS := F.called_set.sub
  refine wpAny_call (codeAny_of_tree ?_)
  show wpAny _ _ (callAny (.type "set") _) _ _ _
  refine wpAny_pure ⟨Code.quiet_builtin _ (by decide +kernel), codeAny_builtin F.entry_type_call ?_⟩
  rw [Around.under_plain (weight_type_call_type "set" [.ref l] []) rfl]
  have noT := F.called_set.notType
  have canC := F.called_set.canCreate
  have tcs := F.typeCall_set_1 (.ref l)
  repeat (any_goals (first | assumption | wp_step))
  refine codeAny_mono (code_set_led1 (.ref l) (E := E) (Q₁ := fun v st => v = .ref s.heap.objs.size ∧ st = { s with heap := s.heap.push (bareSet w) }) ⟨rfl, rfl⟩) fun r st back => ?_
  cases r with
  | error e => exact back
  | ok fl =>
    cases fl with
    | next => exact back.elim
    | brk => exact back.elim
    | cont => exact back.elim
    | ret v =>
      obtain ⟨rfl, rfl⟩ := back
      have atS : (s.heap.push (bareSet w)).get? s.heap.objs.size = some (bareSet w) := Heap.get?_push_size _ rfl
      have tyS : Shared.TypeIs { s with heap := s.heap.push (bareSet w) } (.ref s.heap.objs.size) "set" := ⟨_, atS, rfl⟩
      have iniL := F.called_set.init.lookup
      have iniB := F.called_set.init.bind (.ref s.heap.objs.size)
      repeat (any_goals (first | assumption | wp_step))
      refine codeAny_mono (codeAny_call_builtin (R := wants (fun r st2 => r = .none ∧ ∃ hp tk c, st2 = { s with heap := hp, toks := tk } ∧ SetR w hp s.heap.objs.size (fun j => decide (j ∈ ns)) c ∧ c ≤ ns.length ∧
        (∀ b o, s.heap.get? b = some o → hp.get? b = some o)) E) F.called_set.init.plain F.entry_set_init (check_set_init_1 tyS ?_)) fun r2 st2 back2 => ?_
      · obtain ⟨ol, atL, clL, nl, daL⟩ := isL
        obtain ⟨o1, o2, o3, o4⟩ := ol
        simp only at clL daL
        subst clL; subst daL
        have atL2 : (s.heap.push (bareSet w)).get? l = some { cls := .type "list", dict := o2, data := .seq items nl, slots := o4 } := Heap.get?_push_of_some _ atL
        have sub1 := F.sub_list_set
        have sub2 := F.sub_list_frozenset
        have ne1 : (Value.type "list" == Value.type "dict") = false := by decide
        have isL2 : (s.heap.push (bareSet w)).IsList l items := ⟨_, atL2, rfl, nl, rfl⟩
        unfold Builtin.«set.__init__» noKeywords Builtin.Frozenset.updateFrom
        generalize hold : pyIter = PI
        wp_walk
        subst hold
        refine wpAny_pyIter_list isL2 ?_
        refine wpAny_bind (wpAny_runValue ?_)
        have below : l < s.heap.objs.size := Heap.lt_size atL
        have calm3 : A.in1.in1.in1.handled = none := by simp [calm]
        have apart : l ≠ (s.heap.push (bareSet w)).objs.size := by
          rw [Heap.size_push]
          exact Nat.ne_of_lt (Nat.lt_succ_of_lt below)
        have outside : s.heap.objs.size ∉ [(s.heap.push (bareSet w)).objs.size, l] := by
          rw [Heap.size_push]
          simp only [List.mem_cons, List.mem_singleton, List.not_mem_nil, or_false, not_or]
          exact ⟨Nat.ne_of_lt (Nat.lt_succ_self _), Nat.ne_of_gt below⟩
        have each : ∀ (i : Nat) (v : Value), items[i]? = some v → ∃ k t, ns[i]? = some k ∧ v = .int k t := fun i v hv => by
          have hi : i < ns.length := by rw [← same]; exact (Array.getElem?_eq_some_iff.mp hv).1
          obtain ⟨t, e⟩ := PyProof.Rows.IntsAre.int_at areI i v (by rw [Array.getElem?_toList]; exact hv)
          refine ⟨ns[i], t, List.getElem?_eq_getElem hi, ?_⟩
          rw [e, List.getD_eq_getElem?_getD, List.getElem?_eq_getElem hi] <;> rfl
        refine set_update_ints ((Walks.list calm3 _ l apart items).toS) s.heap.objs.size outside ns same few each (items.size - 0) 0 _ (by omega) (Nat.zero_le _) ⟨⟨_, Heap.get?_push_size _ rfl, rfl, rfl⟩, (isL2.push _)⟩ ?begin ?done
        case begin => exact ⟨0, Nat.le_refl 0, setR_new_at (Heap.get?_push_of_some _ atS)⟩
        case done =>
          intro st3 c3 mv lec isS
          obtain ⟨hp, g3, d3, tk, os3⟩ := st3
          have eg : g3 = s.gens := mv.gens
          have ed : d3 = s.drawn := mv.drawn
          have eo : os3 = s.os := mv.os
          subst eg; subst ed; subst eo
          show wpAny _ _ _ _ _ _
          refine wpAny_pure ?_
          show wpAny _ _ (ret Value.none) _ _ _
          rw [same] at lec
          refine wpAny_pure ⟨rfl, hp, tk, c3, rfl, isS, lec, fun b o e => ?_⟩
          have b0 : b < s.heap.objs.size := Heap.lt_size e
          have b2 : b ≠ (s.heap.push (bareSet w)).objs.size := by
            rw [Heap.size_push]
            exact Nat.ne_of_lt (Nat.lt_succ_of_lt b0)
          exact mv.heap b o (by simp only [List.mem_cons, List.mem_singleton, List.not_mem_nil, or_false, not_or]; exact ⟨Nat.ne_of_lt b0, b2⟩) (Heap.get?_push_of_some _ (Heap.get?_push_of_some _ e))
      · cases r2 with
        | error e => exact back2
        | ok fl2 =>
          cases fl2 with
          | next => exact back2.elim
          | brk => exact back2.elim
          | cont => exact back2.elim
          | ret r =>
            obtain ⟨rfl, hp, tk, c3, rfl, isS, lec, keep⟩ := back2
            repeat (any_goals (first | assumption | wp_step))
            exact goal _ _ _ isS lec keep
end
def rSetLI (K : PySem.W.Frag) (w : World) : List V → Hp → VK → Prop := fun xs H Q => ∃ (l : Addr) (ns : List Int), xs = [.ref l] ∧ SqL K H l (ns.map V.int) ∧ ns.length ≤ 60 ∧ ∀ p c, H p = none → c ≤ ns.length → Q (.ref p) (upd H p (SetO w p (fun j => decide (j ∈ ns)) c))
theorem cr_setLI {X : Cx} (hc : X.calm = true) : CallR X (.type "set") (rSetLI X.K X.w) := by
  intro pins s σ H xs us Q I r h
  obtain ⟨l, ns, rfl, hq, small, q⟩ := h
  obtain ⟨u, rfl, rx⟩ := vals1 r
  cases rx
  obtain ⟨its, r2, pl, _⟩ := I.list hq
  refine set_of_list ns (I.ok.hd hc) pl.isList (by simpa using intsAre_of r2) (by unfold scanBound; omega) fun hp tk c isS lec keep => ?_
  exact ⟨.ref s.heap.objs.size, _, I.laid (t' := tk) keep (Nat.le_refl _) (setO_new isS), rfl, q _ c (I.hok.fresh (Nat.le_refl _)) lec⟩
end L2

set_option Elab.async false
set_option linter.all false
set_option maxRecDepth 100000
set_option maxHeartbeats 4000000
namespace L2
open PySem PySem.Spec PyProof.Rows
theorem back_places (n : Nat) : Builtin.Slice.slicePlaces ((n : Int) - 1) (-1) (-1) = n := by
  unfold Builtin.Slice.slicePlaces
  rw [if_neg (by omega)]
  by_cases h : ((n : Int) - 1) > -1
  · rw [if_pos h]
    have : ((n : Int) - 1 - -1 - 1) / (- -1) + 1 = (n : Int) := by
      rw [Int.neg_neg, Int.ediv_one]
      omega
    rw [this]
    exact Int.toNat_natCast n
  · rw [if_neg h]
    have : n = 0 := by omega
    rw [this]
    rfl
theorem back_pick (xs : Array Value) : ((List.range xs.size).filterMap fun (m : Nat) => xs[(((xs.size : Int) - 1) + (m : Int) * (-1)).toNat]?).toArray = xs.toList.reverse.toArray := by
  congr 1
  refine List.ext_getElem? fun i => ?_
  have hall : ∀ k, k ≤ xs.size → (List.range k).filterMap (fun (m : Nat) => xs[(((xs.size : Int) - 1) + (m : Int) * (-1)).toNat]?) = xs.toList.reverse.take k := fun k => by
    induction k with
    | zero => intro _; rfl
    | succ k ih =>
      intro hk
      rw [List.range_succ, List.filterMap_append, ih (by omega), List.take_add_one]
      congr 1
      have hi : (((xs.size : Int) - 1) + (k : Int) * (-1)).toNat = xs.size - 1 - k := by omega
      have hlt : xs.size - 1 - k < xs.size := by omega
      have hr : xs.toList.reverse[k]? = some xs[xs.size - 1 - k] := by
        rw [List.getElem?_reverse (by rw [Array.length_toList]; omega), Array.length_toList, Array.getElem?_toList]
        exact Array.getElem?_eq_getElem hlt
      rw [hr, List.filterMap_cons, hi, Array.getElem?_eq_getElem hlt]
      rfl
  rw [hall xs.size (Nat.le_refl _), List.take_of_length_le (by rw [List.length_reverse, Array.length_toList]; exact Nat.le_refl _)]
section
variable {prog : Program} {w : World} {A : Around} {E : Value → Shared → Prop} {s : Shared}
theorem slice_back {sl : Addr} {v1 v2 v3 : Value} {n : Nat} {Q : Int × Int × Nat → Shared → Prop} (isS : s.heap.IsSliceOf sl v1 v2 v3) (p1 : IsPart v1 none) (p2 : IsPart v2 none) (p3 : IsPart v3 (some (-1))) (goal : Q ((n : Int) - 1, -1, n) s) :
    wpAny (model prog w) A (Builtin.Slice.sliceApplied (.ref sl) (pure (n : Int))) Q E s := by
  obtain ⟨os, atS, clS, daS⟩ := id isS
  unfold Builtin.Slice.sliceApplied Builtin.Slice.sliceFields
  refine wpAny_bind (wpAny_bind (wpAny_field atS daS (x := v1) rfl (wpAny_bind (wpAny_field atS daS (x := v2) rfl (wpAny_bind (wpAny_field atS daS (x := v3) rfl (wpAny_pure ?_)))))))
  refine wpAny_bind (HT.slicePart_ p3 ?_)
  show wpAny _ _ (if ((-1 : Int) == 0) = true then _ else _) _ _ s
  rw [if_neg (by decide)]
  refine wpAny_bind (HT.slicePart_ p1 (wpAny_bind (HT.slicePart_ p2 (wpAny_bind (wpAny_pure ?_)))))
  show wpAny _ _ (pure ((n : Int) - 1, (-1 : Int), Builtin.Slice.slicePlaces ((n : Int) - 1) (-1) (-1))) _ _ s
  rw [back_places]
  exact wpAny_pure goal
theorem tuple_back {t sl : Addr} {items : Array Value} {v1 v2 v3 : Value} {Q : Value → Shared → Prop} (isT : IsTup s.heap t items) (isS : s.heap.IsSliceOf sl v1 v2 v3) (p1 : IsPart v1 none) (p2 : IsPart v2 none) (p3 : IsPart v3 (some (-1)))
    (goal : Q (.ref s.heap.objs.size) { s with heap := s.heap.push { cls := .type "tuple", data := .seq items.toList.reverse.toArray } }) (fits : items.size ≤ sizeLine) : wpAny (model prog w) A (getItem (.ref t) (.ref sl)) Q E s := by
  have okR : sizeOk (.seq items.toList.reverse.toArray) := by
    show items.toList.reverse.toArray.size ≤ sizeLine
    rw [List.size_toArray, List.length_reverse, Array.length_toList]
    exact fits
  obtain ⟨os, atS, clS, daS⟩ := id isS
  have tyS : s.TypeIs (.ref sl) "slice" := ⟨os, atS, clS⟩
  unfold getItem
  try with_reducible refine wpAny_holding ?_
  first | refine wpAny_bind (wpAny_pure ?_) | skip
  refine wpAny_bind (wpAny_sequenceKey isT.typeIs (by decide) ?_)
  refine wpAny_bind (wpAny_callSpecial?_slot (name := Str.ofString "__getitem__") isT.typeIs PyProof.Rows.slot_tuple_getitem (wpAny_call_entry PyProof.Rows.slot_tuple_getitem isT.typeIs entry_tuple_getitem ?_ (args_tuple_getitem _ _)))
  show wpAny _ _ (Builtin.Tuple.tupleItemsOf (.ref t) >>= _) _ _ s
  refine wpAny_bind (tupleItemsOf_ isT ?_)
  refine wpAny_bind (wpAny_typeOf tyS ?_)
  rw [if_pos (by decide)]
  refine wpAny_bind (slice_back isS p1 p2 p3 ?_)
  have no : ¬ ((((items.size : Int) - 1) == 0 && (-1 : Int) == 1 && items.size == items.size) = true) := by
    rw [show ((-1 : Int) == 1) = false by decide, Bool.and_false, Bool.false_and]
    exact Bool.false_ne_true
  show wpAny _ _ (if (((items.size : Int) - 1) == 0 && (-1 : Int) == 1 && items.size == items.size) = true then _ else _) _ _ s
  rw [if_neg no, back_pick]
  first
    | exact wpAny_bind (m := Builtin.Tuple.tupleExact _) (wpAny_newObj_type (wpAny_pure ⟨_, rfl, wpAny_pure goal⟩) okR)
    | exact wpAny_bind (m := Builtin.Tuple.tupleExact _) (wpAny_newObj_type (wpAny_bind (wpAny_pure (wpAny_pure ⟨_, rfl, wpAny_pure goal⟩))) okR)
    | exact wpAny_bind (wpAny_bind (m := Builtin.Tuple.tupleExact _) (wpAny_newObj_type (wpAny_pure (wpAny_pure ⟨_, rfl, wpAny_pure goal⟩)) okR))
    | exact wpAny_bind (wpAny_bind (m := Builtin.Tuple.tupleExact _) (wpAny_newObj_type (wpAny_pure ⟨_, rfl, wpAny_pure goal⟩) okR))
end
/-- t[::-1] -/
def tRevT (K : PySem.W.Frag) (te : TE) : TE := fun σ H Q => te σ H fun x H1 => ∃ a xs, x = .ref a ∧ SqT K H1 a xs ∧ ∀ p, H1 p = none → Q (.ref p) (upd H1 p (.tup xs.reverse))
theorem pe_revT {X : Cx} {e : Expr} {te : TE} {k : Nat} {p1 p2 p3 pos : Pos} (he : PE X e te) : PE X (.Subscript e (.Slice none none (some (.UnaryOp .USub (.Constant (.int 1) k p1) p2)) p3) pos) (tRevT X.K te) := by
  refine ⟨fun pins st σ H Q I want => ?_⟩
  refine Subscript_ (thn (he.run pins st σ H _ I want) fun v s1 ⟨x, H1, I1, r1, q1⟩ => ?_)
  obtain ⟨a, xs, ex, isT, q⟩ := q1
  subst ex
  cases r1
  have step : PO X (some (.UnaryOp .USub (.Constant (.int 1) k p1) p2)) (tPart (tUn (rU fun i => .int (-i)) (tC (.int 1)))) := po_some (pe_un un_neg pe_int)
  refine wpAny_Slice (thn (po_none.run pins s1 σ H1 (fun o H2 => o = none ∧ H2 = H1) I1 ⟨rfl, rfl⟩) fun vl s2 ⟨l, H2, I2, pl, el, e2⟩ => ?_)
  subst el e2
  refine thn (po_none.run pins s2 σ H2 (fun o H3 => o = none ∧ H3 = H2) I2 ⟨rfl, rfl⟩) fun vu s3 ⟨u, H3, I3, pu, eu, e3⟩ => ?_
  subst eu e3
  refine thn (step.run pins s3 σ H3 (fun o H4 => o = some (-1) ∧ H4 = H3) I3 ⟨1, rfl, -1, rfl, rfl, rfl⟩) fun vs s4 ⟨o, H4, I4, ps, eo, e4⟩ => ?_
  subst eo e4
  have I5 : Inv X pins σ H4 { s4 with heap := s4.heap.push { cls := .type "slice", data := .fields #[vl, vu, vs] } } := I4.kept (t' := s4.toks) fun b ob z => Heap.get?_push_of_some _ z
  obtain ⟨its, r, ht, hz⟩ := I5.tuple isT
  have many := r.length
  show wpAny (model X.prog X.w) X.A (subscriptTail e (.Slice none none (some (.UnaryOp .USub (.Constant (.int 1) k p1) p2)) p3) (.ref a) (.ref s4.heap.objs.size)) (EP X pins σ Q) X.xe { s4 with heap := s4.heap.push { cls := .type "slice", data := .fields #[vl, vu, vs] } }
  refine tail_any (ops := [.ref a, .ref s4.heap.objs.size]) ht.typeIs (PyProof.Rows.slot_tuple_getitem.lookup) ?_ (by with_unfolding_all rfl)
  refine tuple_back ht (Heap.IsSliceOf.new _ vl vu vs) pl pu ps ?_ (by rw [List.size_toArray]; omega)
  refine ⟨.ref _, _, I5.laid (t' := s4.toks) (o := .tup xs.reverse) (fun b ob z => Heap.get?_push_of_some _ z) (Nat.le_refl _) ?_, rfl, q _ (I5.hok.fresh (Nat.le_refl _))⟩
  exact ⟨by rw [List.length_reverse]; exact hz, _, r.reverse, IsTup.new _ _⟩
end L2

set_option Elab.async false
set_option linter.all false
set_option maxRecDepth 100000
/-! len of a set of ints: as many as its members -/
namespace L2
open PySem PySem.Spec PyProof.Rows
def rLenSetO (w : World) : List V → Hp → VK → Prop := fun xs H Q => ∃ (a : Addr) (S : Int → Bool) (n : Nat), xs = [.ref a] ∧ H a = some (SetO w a S n) ∧ n ≤ 1000 ∧ ((∃ l : List Int, l.Nodup ∧ l.length = n ∧ ∀ k, k ∈ l ↔ S k = true) → Q (.int n) H)
theorem cr_lenSetO {X : Cx} : CallR X (.builtin "len") (rLenSetO X.w) := by
  intro pins s σ H xs us Q I r h
  obtain ⟨a, S, n, rfl, ha, h64, q⟩ := h
  have R := setO_get I ha
  rw [Vals.ref1 r]
  obtain ⟨o, es, ep, t, ho, hex, hd, g, nd, hm, hb, hf, hn, hr, hl⟩ := R
  refine call_len_set ho hex hd hf (by rw [hn]; omega) ⟨.int n, H, I.tok _, ⟨_, by rw [hn]⟩, q ⟨es.toList.map keyOf, nd, ?_, fun k => (hm k).symm⟩⟩
  rw [List.length_map, Array.length_toList]
  exact hn
/-- the bookkeeping of a walk over a range, whatever a turn's reading is -/
theorem steps_range {lo : Int} {n : Nat} {H0 : Hp} {Qd : Hp → Prop} {step : V → Hp → (Hp → Prop) → Prop} (Pv : Nat → Hp → Prop) (h0 : Pv 0 H0)
    (hs : ∀ i H, i < n → Pv i H → step (.int (lo + i)) H (Pv (i + 1))) (hd : ∀ H, Pv n H → Qd H) :
    ∃ W : Nat → Nat → Hp → Prop, (∃ m, W 0 m H0) ∧ ∀ i m H, W i m H →
      ((Itr lo n).stop i H ∧ Qd H) ∨ ((Itr lo n).go i H ∧ ∃ N : Hp → Prop, (∀ H', N H' → ∃ m', m' < m ∧ W (i + 1) m' H') ∧ ∀ x H', (Itr lo n).yld i H x H' → step x H' N) := by
  refine ⟨fun i m H => m = n - i ∧ i ≤ n ∧ Pv i H, ⟨n, by simp, Nat.zero_le _, h0⟩, ?_⟩
  rintro i m H ⟨rfl, hi, p⟩
  by_cases hlt : i < n
  · refine .inr ⟨hlt, Pv (i + 1), fun H' p' => ⟨n - (i + 1), by omega, rfl, hlt, p'⟩, fun x H' y => ?_⟩
    obtain ⟨e, y⟩ := y
    subst e y
    exact hs i _ hlt p
  · obtain rfl : i = n := by omega
    exact .inl ⟨Nat.le_refl _, hd H p⟩
end L2

set_option Elab.async false
set_option linter.all false
set_option maxRecDepth 100000
set_option maxHeartbeats 4000000
/-! zip of two things, each a list or a tuple -/
namespace L2
open PySem PySem.Spec PyProof.Rows
def SqB (K : PySem.W.Frag) (t : Bool) (H : Hp) (a : Addr) (xs : List V) : Prop := match t with | true => SqT K H a xs | false => SqL K H a xs
def SeqB (h : Heap) (t : Bool) (a : Addr) (items : Array Value) : Prop := match t with | true => h.IsTuple a items | false => h.IsList a items
def IterB (h : Heap) (t : Bool) (it a : Addr) (i : Nat) : Prop := match t with | true => h.IsTupleIter it a i | false => h.IsListIter it a i
def obB (t : Bool) (a : Addr) : Obj := match t with | true => { cls := .type "tuple_iterator", data := .fields #[.ref a, .int 0 0] } | false => { cls := .type "list_iterator", data := .fields #[.ref a, .int 0 0] }
theorem drawsB {prog : Program} {w : World} {A : Around} (t : Bool) (hh : A.handled = none) (it l : Addr) (hne : l ≠ it) (items : Array Value) :
    Draws prog w A it [it, l] items.size (fun i v => items[i]? = some v) (fun i h => IterB h t it l i ∧ SeqB h t l items) := by
  cases t with
  | true => exact Draws.tuple hh it l hne items
  | false => exact Draws.list hh it l hne items
theorem beginsB (t : Bool) (l : Addr) (items : Array Value) : Begins (.ref l) (obB t l) (fun h => SeqB h t l items) := by
  cases t with
  | true => exact begins_tuple l items
  | false => exact begins_list l items
theorem iterB_new {h : Heap} {t : Bool} {it l : Addr} (e : h.get? it = some (obB t l)) : IterB h t it l 0 := by
  cases t with
  | true => exact ⟨_, e, rfl, rfl⟩
  | false => exact ⟨_, e, rfl, rfl⟩
theorem IterB.live {h : Heap} {t : Bool} {it a : Addr} {i : Nat} (q : IterB h t it a i) : ∃ o, h.get? it = some o ∧ ∀ v, o.data ≠ .cell v := by
  cases t with
  | true =>
    obtain ⟨o, e, _, d⟩ := q
    exact ⟨o, e, fun v q => by rw [d] at q; cases q⟩
  | false =>
    obtain ⟨o, e, _, d⟩ := q
    exact ⟨o, e, fun v q => by rw [d] at q; cases q⟩
theorem IterB.at {h h' : Heap} {t : Bool} {it a : Addr} {i : Nat} (q : IterB h t it a i) (k : ∀ o, h.get? it = some o → h'.get? it = some o) : IterB h' t it a i := by
  cases t with
  | true => exact Heap.IsTupleIter.at q k
  | false => exact Heap.IsListIter.at q k
theorem SeqB.lt {h : Heap} {t : Bool} {a : Addr} {items : Array Value} (q : SeqB h t a items) : a < h.objs.size := by
  cases t with
  | true =>
    obtain ⟨o, e, _⟩ := q
    exact Heap.lt_size e
  | false =>
    obtain ⟨o, e, _⟩ := q
    exact Heap.lt_size e
section
variable {X : Cx} {pins : List (Addr × Obj)} {σ : St} {H : Hp} {s : Shared}
theorem inv_seqB {t : Bool} {a : Addr} {xs : List V} (I : Inv X pins σ H s) (q : SqB X.K t H a xs) : ∃ its : List Value, Vals xs its ∧ SeqB s.heap t a its.toArray := by
  cases t with
  | true =>
    obtain ⟨its, rv, p, _⟩ := I.tuple q
    exact ⟨its, rv, p⟩
  | false =>
    obtain ⟨its, rv, p, _⟩ := I.list q
    exact ⟨its, rv, p.isList⟩
theorem inv_injB {t : Bool} {a : Addr} {xs ys : List V} (I : Inv X pins σ H s) (q : SqB X.K t H a xs) (q' : SqB X.K t H a ys) : xs = ys := by
  cases t with
  | true => exact I.tuple_inj q q'
  | false => exact I.list_inj q q'
end
theorem SqB.ext {K : PySem.W.Frag} {t : Bool} {H H' : Hp} {a : Addr} {xs : List V} (q : SqB K t H a xs) (e : Ext H H') : SqB K t H' a xs := by
  cases t with
  | true => exact SqT.ext q e
  | false => exact SqL.ext q e
/-- the two things as they stand at each turn, the items in new pairs -/
def ItzB (K : PySem.W.Frag) (t1 t2 : Bool) (a b : Addr) : It :=
  ⟨fun i H => ∃ (xs ys : List V), SqB K t1 H a xs ∧ SqB K t2 H b ys ∧ i < xs.length ∧ i < ys.length,
    fun i H v H' => ∃ T x y, v = .ref T ∧ H T = none ∧ H' = upd H T (.tup [x, y]) ∧ (∀ xs, SqB K t1 H a xs → xs[i]? = some x) ∧ ∀ ys, SqB K t2 H b ys → ys[i]? = some y,
    fun i H => ∃ xs ys : List V, SqB K t1 H a xs ∧ SqB K t2 H b ys ∧ i = min xs.length ys.length⟩
theorem turn_zipB {P : Program} {w : World} {K : PySem.W.Frag} {elts : List Expr} {kk : Nat} {tpos : Pos} {t1 t2 : Bool} {a b z TI TO i1 i2 : Addr} (D : ZipApart z TI TO i1 i2 a b) :
    Turn P w K (.Tuple elts kk tpos) (ItzB K t1 t2 a b) [z, TI, TO, i1, i2] z (fun i h => IsZip h z TI TO .none ∧ IsTupOf2 h TI (.ref i1) (.ref i2) ∧ (∃ x y, IsTupOf2 h TO x y) ∧ IterB h t1 i1 a i ∧ IterB h t2 i2 b i) where
  mem := by simp
  obj := fun i h st c hc => by
    obtain ⟨hz, hTI, ⟨x, y, hTO⟩, h1, h2⟩ := st
    have e' : c = z ∨ c = TI ∨ c = TO ∨ c = i1 ∨ c = i2 := by simpa using hc
    rcases e' with q | q | q | q | q
    · rw [q]; exact ⟨_, hz, fun v q => nomatch q⟩
    · rw [q]; exact ⟨_, hTI, fun v q => nomatch q⟩
    · rw [q]; exact ⟨_, hTO, fun v q => nomatch q⟩
    · rw [q]; exact h1.live
    · rw [q]; exact h2.live
  keep := fun i h h' st k => by
    obtain ⟨hz, hTI, ⟨x, y, hTO⟩, h1, h2⟩ := st
    exact ⟨k z (by simp) _ hz, k TI (by simp) _ hTI, ⟨x, y, k TO (by simp) _ hTO⟩, h1.at fun o q => k i1 (by simp) o q, h2.at fun o q => k i2 (by simp) o q⟩
  item := by
    intro X hP hw hK hc i pins s σ H E I hf st hg
    subst hP hw hK
    obtain ⟨hz, hTI, ⟨x0, y0, hTO⟩, h1, h2⟩ := st
    obtain ⟨xs, ys, hqx, hqy, hx, hy⟩ := hg
    obtain ⟨its, rv, p⟩ := inv_seqB I hqx
    obtain ⟨its2, rv2, p2⟩ := inv_seqB I hqy
    have l1 := rv.length
    have l2 := rv2.length
    have hzl : z < s.heap.objs.size := Heap.lt_size hz
    have Sp : ZipSep2 z TI TO i1 i2 [i1, a] [i2, b] := ⟨D.TIz, D.TOz, D.TITO, D.TIi1, by simp, by simp [Ne.symm D.i1z, Ne.symm D.l1z], by simp [D.TOi1, Ne.symm D.l1TO], D.TIi2, by simp, by simp [Ne.symm D.i2z, Ne.symm D.l2z], by simp [D.TOi2, Ne.symm D.l2TO], by simp [D.i12, Ne.symm D.l2i1], by simp [Ne.symm D.i12, Ne.symm D.l1i2]⟩
    have D1 := drawsB (prog := X.prog) (w := X.w) (A := X.A.in1) t1 (show X.A.in1.handled = none from I.ok.hd hc) i1 a D.l1i1 its.toArray
    have D2 := drawsB (prog := X.prog) (w := X.w) (A := X.A.in1) t2 (show X.A.in1.handled = none from I.ok.hd hc) i2 b D.l2i2 its2.toArray
    refine wpAny_pyNext_zipD2_item Sp D1 D2 hz hTI hTO ⟨h1, p⟩ ⟨h2, p2⟩ (by simp; omega) (by simp; omega) fun u u2 h' tk hP1 hP2 z' TO' h1' h2' hT hsz hk => ?_
    have hu : its[i]? = some u := by simpa using hP1
    have hu2 : its2[i]? = some u2 := by simpa using hP2
    obtain ⟨x, hxx⟩ : ∃ x, xs[i]? = some x := ⟨_, List.getElem?_eq_getElem hx⟩
    obtain ⟨y, hyy⟩ : ∃ y, ys[i]? = some y := ⟨_, List.getElem?_eq_getElem hy⟩
    obtain ⟨u', hu', ru⟩ := rv.get hxx
    obtain ⟨u2', hu2', ru2⟩ := rv2.get hyy
    obtain rfl : u' = u := Option.some.inj (hu'.symm.trans hu)
    obtain rfl : u2' = u2 := Option.some.inj (hu2'.symm.trans hu2)
    refine ⟨_, rfl, wpAny_letOwnedTupleGo_zip (s := { s with heap := h', toks := tk }) z' fun h'' z'' sb => ?_⟩
    have hT2 : h''.get? s.heap.objs.size = some { cls := .type "tuple", data := .seq #[u', u2'] } := (sb.2 _ (Nat.ne_of_gt hzl)).trans hT
    have new : ObjOk X.prog X.w (upd H s.heap.objs.size (.tup [x, y])) h'' s.heap.objs.size (.tup [x, y]) :=
      ⟨by show 2 ≤ sizeLine; decide, [u', u2'], .cons ru (.cons ru2 .nil), ⟨_, hT2, rfl, _, rfl⟩⟩
    have I1 : Inv X pins σ (upd H s.heap.objs.size (.tup [x, y])) { s with heap := h'', toks := tk } :=
      I.turnedNew (ch := [z, TI, TO, i1, i2]) (fun c o hb q => (sb.2 c (fun q' => hb (by simp [q']))).trans (hk c o (fun q' => hb (by simp [q'])) (fun q' => hb (by simp [q'])) (fun q' => hb (by simp [q'])) (fun q' => hb (by simp [q'])) q)) hf (Nat.le_refl _) new
    refine ⟨.ref s.heap.objs.size, _, I1, rfl, ⟨_, x, y, rfl, I.hok.fresh (Nat.le_refl _), rfl, fun l hl => by rw [inv_injB I hl hqx]; exact hxx, fun l hl => by rw [inv_injB I hl hqy]; exact hyy⟩, ⟨z'', ?_, ⟨u', u2', ?_⟩, ?_, ?_⟩, fun c hcm => ?_⟩
    · exact (sb.2 _ D.TIz).trans (hk _ _ D.TIz D.TITO D.TIi1 D.TIi2 hTI)
    · exact (sb.2 _ D.TOz).trans TO'
    · exact h1'.1.at fun o q => (sb.2 _ D.i1z).trans q
    · exact h2'.1.at fun o q => (sb.2 _ D.i2z).trans q
    · have hlt : c < s.heap.objs.size := by
        have e' : c = z ∨ c = TI ∨ c = TO ∨ c = i1 ∨ c = i2 := by simpa using hcm
        rcases e' with q | q | q | q | q
        · rw [q]; exact hzl
        · rw [q]; exact Heap.lt_size hTI
        · rw [q]; exact Heap.lt_size hTO
        · rw [q]; obtain ⟨_, e1, _⟩ := h1.live; exact Heap.lt_size e1
        · rw [q]; obtain ⟨_, e2, _⟩ := h2.live; exact Heap.lt_size e2
      rw [upd_ne (Nat.ne_of_lt hlt)]
      exact (hf c hcm).1
  done := by
    intro X hP hw hK hc i pins s σ H E I hf st hg
    subst hP hw hK
    obtain ⟨hz, hTI, ⟨x0, y0, hTO⟩, h1, h2⟩ := st
    obtain ⟨xs, ys, hqx, hqy, hend⟩ := hg
    obtain ⟨its, rv, p⟩ := inv_seqB I hqx
    obtain ⟨its2, rv2, p2⟩ := inv_seqB I hqy
    have l1 := rv.length
    have l2 := rv2.length
    have Sp : ZipSep2 z TI TO i1 i2 [i1, a] [i2, b] := ⟨D.TIz, D.TOz, D.TITO, D.TIi1, by simp, by simp [Ne.symm D.i1z, Ne.symm D.l1z], by simp [D.TOi1, Ne.symm D.l1TO], D.TIi2, by simp, by simp [Ne.symm D.i2z, Ne.symm D.l2z], by simp [D.TOi2, Ne.symm D.l2TO], by simp [D.i12, Ne.symm D.l2i1], by simp [Ne.symm D.i12, Ne.symm D.l1i2]⟩
    have D1 := drawsB (prog := X.prog) (w := X.w) (A := X.A.in1) t1 (show X.A.in1.handled = none from I.ok.hd hc) i1 a D.l1i1 its.toArray
    have D2 := drawsB (prog := X.prog) (w := X.w) (A := X.A.in1) t2 (show X.A.in1.handled = none from I.ok.hd hc) i2 b D.l2i2 its2.toArray
    refine wpAny_pyNext_zipD2_end Sp D1 D2 hz hTI hTO ⟨h1, p⟩ ⟨h2, p2⟩ (by simp; omega) (by simp; omega) (by simp; omega) fun h' tk hk => ⟨rfl, I.turnedL (t' := tk) (ch := [z, TI, TO, i1, i2]) (fun c o hb q =>
      hk c o (fun q' => hb (by simp [q'])) (fun q' => hb (by simp [q'])) (fun q' => hb (by simp [q'])) (fun q' => hb (by simp [q'])) q) hf⟩
  self := fun A i s Q E st h => wpAny_pyIter_zip st.1 h
def iZipB (K : PySem.W.Frag) (t1 t2 : Bool) (ta : TA) : TI := fun σ H R => ta σ H fun vs H1 => ∃ a b xs ys, vs = [.ref a, .ref b] ∧ SqB K t1 H1 a xs ∧ SqB K t2 H1 b ys ∧ R (ItzB K t1 t2 a b) H1
theorem pi_zipB {X : Cx} (t1 t2 : Bool) {e e2 : Expr} {ta : TA} {p pos tpos : Pos} {elts : List Expr} {kk : Nat} (hg : Gl X "zip") (hm : X.mg "zip" = none) (ha : PA X [e, e2] ta)
    (hs : starEach [e, e2] X.env = (false, eval e X.env) :: starEach [e2] X.env := by rfl) (hpl : (backTo pos (starEach [e2] X.env)).any (·.1) = false := by rfl) :
    PI X (.Tuple elts kk tpos) (.Call (.Name "zip" p) [e, e2] [] pos) (iZipB X.K t1 t2 ta) := by
  refine ⟨fun pins s σ H R I h => ?_⟩
  refine Call_ (ld_blt I hg hm PyProof.Rows.boot_zip (PyProof.Rows.callWith_type1 (thn (ha.run pos pins s σ H _ I h) fun us s1 ⟨vs, H1, I1, r1, q1⟩ => ?_) hs hpl))
  obtain ⟨a, b, xs, ys, ex, hqx, hqy, q⟩ := q1
  subst ex
  cases r1 with
  | cons r rr =>
    cases rr with
    | cons r' rr =>
      cases rr
      cases r
      cases r'
      have fresh5 : ∀ c, c ∈ [s1.heap.objs.size + 4, s1.heap.objs.size + 2, s1.heap.objs.size + 3, s1.heap.objs.size, s1.heap.objs.size + 1] → FpOk X pins H1 c := fun c hcm => by
        have e' : c = s1.heap.objs.size + 4 ∨ c = s1.heap.objs.size + 2 ∨ c = s1.heap.objs.size + 3 ∨ c = s1.heap.objs.size ∨ c = s1.heap.objs.size + 1 := by simpa using hcm
        have hle : s1.heap.objs.size ≤ c := by
          rcases e' with z | z | z | z | z
          · rw [z]; exact Nat.le_add_right _ _
          · rw [z]; exact Nat.le_add_right _ _
          · rw [z]; exact Nat.le_add_right _ _
          · rw [z]; exact Nat.le_refl _
          · rw [z]; exact Nat.le_add_right _ _
        exact I1.fpOk hle (I1.hok.fresh hle)
      obtain ⟨its, rv, p1⟩ := inv_seqB I1 hqx
      obtain ⟨its2, rv2, p2⟩ := inv_seqB I1 hqy
      refine zip_begins2 (beginsB t1 a its.toArray) (beginsB t2 b its2.toArray) p1 p2 fun h' hz hTI hTO h1 h2 hsz hk => wpAny_pyIter_zip hz ?_
      have I2 : Inv X pins σ H1 { s1 with heap := h' } := I1.kept (t' := s1.toks) hk
      exact ⟨s1.heap.objs.size + 4, [s1.heap.objs.size + 4, s1.heap.objs.size + 2, s1.heap.objs.size + 3, s1.heap.objs.size, s1.heap.objs.size + 1], _, _, H1, rfl, I2, turn_zipB (PySem.W.ktu_apart s1.heap.objs.size a b p1.lt p2.lt), ⟨hz, hTI, ⟨_, _, hTO⟩, iterB_new h1, iterB_new h2⟩, fresh5, q⟩
theorem walk_zipB {K : PySem.W.Frag} {t1 t2 : Bool} {a b : Addr} {xs ys : List V} {n : Nat} (hn : n = min xs.length ys.length) : Walk (ItzB K t1 t2 a b) n (fun H => SqB K t1 H a xs ∧ SqB K t2 H b ys) (YPair (fun i => xs[i]?) (fun i => ys[i]?)) := by
  subst hn
  refine ⟨fun i _ hi q => ⟨xs, ys, q.1, q.2, by omega, by omega⟩, fun _ q => ⟨xs, ys, q.1, q.2, rfl⟩, fun i H v H' _ q y => ?_⟩
  obtain ⟨T, x, y, e1, e2, e3, e4, e5⟩ := y
  exact ⟨T, x, y, e1, e2, e3, e4 xs q.1, e5 ys q.2⟩
end L2

set_option Elab.async false
set_option linter.all false
set_option maxRecDepth 100000
set_option maxHeartbeats 1000000
/-! list.remove of a flat item -/
namespace L2
open PySem PySem.Spec PyProof.Rows
section
variable {X : Cx}
def rRemF : V → List V → Hp → VK → Prop := fun x xs H Q => ∃ (l : Addr) (ys : List V) (y : V) (j : Nat) (z : V), x = .ref l ∧ xs = [y] ∧ H l = some (.lst ys) ∧ flatV y = true ∧ ys.all flatV = true ∧ ys[j]? = some z ∧ eqV z y = true ∧
  (∀ (m : Nat) (z' : V), m < j → ys[m]? = some z' → eqV z' y = false) ∧ Q .non (upd H l (.lst (ys.eraseIdx j)))
theorem mt_removeF : MtM X "list.remove" rRemF := by
  intro pins s σ H x xs v us Q I rx rxs h
  obtain ⟨l, ys, y, j, z, rfl, rfl, hH, fy, fys, hz, hzj, hno, q⟩ := h
  cases rx
  obtain ⟨u, rfl, ry⟩ := rxs.one
  obtain ⟨zz, its, n, rv, hl, e⟩ := I.lstM hH
  obtain ⟨w, hw, ru⟩ := rv.get hz
  obtain ⟨hjl, hje⟩ := List.getElem?_eq_some_iff.mp hw
  have hvl := rv.length
  have hj : j < its.toArray.size := by simpa using hjl
  refine call_meets PySem.F.slot_list_remove ⟨_, e, rfl⟩ PySem.F.entry_list_remove (PySem.F.args_list_remove_2 _ _)
    (SeqAt.list_removeAt l its.toArray n none #[] u (eqU y) j hj ?_ ?_ (by rw [List.size_toArray]; omega)) ⟨e, fun u' hu' => mem_eqAt ry fy rv fys u' (by simpa using hu'), ?_⟩
  · have e1 : its.toArray[j] = w := by simpa using hje
    rw [e1, eqU_of ru (flat_at fys hz)]
    exact hzj
  · intro m hm hmj
    have hml : m < its.length := by simpa using hm
    have hmy : m < ys.length := by omega
    have hy' : ys[m]? = some ys[m] := List.getElem?_eq_getElem hmy
    obtain ⟨u2, hu2, ru2⟩ := rv.get hy'
    obtain ⟨_, hme⟩ := List.getElem?_eq_some_iff.mp hu2
    have e1 : its.toArray[m] = u2 := by simpa using hme
    rw [e1, eqU_of ru2 (flat_at fys hy')]
    exact hno m _ hmj hy'
  · refine ⟨.non, _, I.lset (its' := its.eraseIdx j) (t' := s.toks) hH e ?_ (rv.eraseIdx j) ?_, rfl, q⟩
    · show its.toArray.eraseIdxIfInBounds j = (its.eraseIdx j).toArray
      rw [List.eraseIdxIfInBounds_toArray]
    · have := len_erase ys j
      omega
end
end L2

set_option Elab.async false
set_option linter.all false
set_option maxRecDepth 100000
set_option maxHeartbeats 4000000
/-! <= by an own __le__, + by an own __add__ (what stands to the right: an int, a bool, a text), the call of an instance by an own __call__; what is raised may be wished for -/
namespace PySem.W
open PySem PyProof.Rows
section
variable {prog : Program} {w : World} {A : Around} {E : Value → Shared → Prop} {s : Shared} {K : Frag} {x C L f : Addr} {h₀ : Heap} {m : Str → Option Value} {ox : Obj} {od : Option Obj}
theorem pyslot_K {M : Model} {h : Heap} {nm : String} (X : K.In h) (hs : findIn K (.ref C) (PySem.dunder nm) = some (some (.ref f))) (hr : findIn K (.ref C) (dunderR nm) = some none) : Looks M h (numberSlotInPython (.ref C) nm) true := by
  intro A Q E s k q
  unfold numberSlotInPython
  refine wpAny_bind ((looks_findIn X hs) A _ E s k ?_)
  refine wpAny_bind (wpAny_pure ?_)
  refine wpAny_bind ((looks_findIn X hr) A _ E s k ?_)
  refine wpAny_bind (wpAny_pure ?_)
  simp only [Bool.or_false, if_true]
  exact wpAny_pure q
theorem binop_KB {op : Operator} {b : Value} {T : String} {fT : Bool} {rT : Option Value} {Q : Value → Shared → Prop} (F : Fr h₀ L s.heap m) (X₀ : K.In h₀) (I : InstAt s.heap x ox C od) (hb : Looks (model prog w) s.heap (typeOf b) (.type T)) (hc : selfFirst K C = true)
    (hs : findIn K (.ref C) (PySem.dunder op.info.2) = some (some (.ref f))) (hr : findIn K (.ref C) (dunderR op.info.2) = some none) (hfT : fillsNumberSlot (.type T) op.info.2 = pure fT) (hsub : subIn K (.type T) (.ref C) = some false) (hrT : typeLookup (.type T) (dunderR op.info.2) = pure rT) (hf : isFn K (.ref f) = true)
    (h : wpAny (model prog w) A (call (.ref f) [.ref x, b]) (CmpBack Q) E s) : wpAny (model prog w) A (binaryOp op (.ref x) b) Q E s := by
  have X := X₀.keeps F.keep
  obtain ⟨cd, hcd, hm⟩ := any_some hc
  obtain ⟨rest, hm⟩ : ∃ rest, cd.mro = .ref C :: rest := by
    cases q : cd.mro with
    | nil => rw [q] at hm; cases hm
    | cons a r => rw [q] at hm; exact ⟨r, by rw [List.head?_cons] at hm; cases (beq_iff_eq.mp hm); rfl⟩
  unfold binaryOp
  refine wpAny_holding (wpAny_bind ?_)
  unfold binaryOp1
  refine wpAny_bind (I.type.here (wpAny_bind (hb.here (wpAny_bind ((fills_K X hcd hm hs).here ?_)))))
  have tail : wpAny (model prog w) A (tryMethod (.ref x) (PySem.dunder op.info.2) b) (fun r s' => ∃ v, r = some v ∧ Q v s') E s := by
    unfold tryMethod
    refine wpAny_bind (special_fn X I hs (beq_iff_eq.mp hf) (wpAny_mono h (fun v s' hv => ?_) fun _ _ e => e))
    cases v <;> first | exact hv.elim | exact wpAny_pure ⟨_, rfl, hv⟩
  simp only [show (Value.ref C == Value.type T) = false from rfl, Bool.false_eq_true, if_false]
  refine wpAny_bind (wpAny_of_eq hfT ?_)
  cases fT with
  | false =>
    simp only [Bool.and_false, Bool.false_eq_true, if_false, Bool.false_and]
    refine wpAny_bind (wpAny_pure ?_)
    simp only [Bool.false_eq_true, if_false, if_true]
    refine wpAny_bind (wpAny_mono tail (fun r s' z => ?_) fun _ _ e => e)
    obtain ⟨v, rfl, q⟩ := z
    exact wpAny_pure (wpAny_pure q)
  | true =>
    simp only [Bool.and_self, if_true]
    refine wpAny_bind ((looks_subIn X hsub).here ?_)
    simp only [Bool.false_eq_true, if_false, Bool.not_false, Bool.and_self, if_true]
    refine wpAny_bind ((pyslot_K X hs hr).here ?_)
    simp only [if_true]
    refine wpAny_bind (wpAny_of_eq (show numberSlotInPython (.type T) op.info.2 = pure false from rfl) ?_)
    simp only [Bool.not_false, if_true]
    refine wpAny_bind (wpAny_of_eq hrT ?_)
    refine wpAny_bind (wpAny_mono tail (fun r s' z => ?_) fun _ _ e => e)
    obtain ⟨v, rfl, q⟩ := z
    exact wpAny_pure (wpAny_pure q)
end
end PySem.W
namespace L2
open PySem PySem.Spec PyProof.Rows
section
variable {X : Cx} {CX : CXT} {k : Nat} {f C : Addr} {fd : FuncData} {ps : List Str} {sp : Sp} {E : St → XK}
/-- x <= y, x an instance of the class at C with an own __le__ that gives a bool -/
def rLeO (K : PySem.W.Frag) (C : Addr) (sp : Sp) : R2 := fun x y H Q => ∃ a dx fs t, x = .ref a ∧ H a = some (.ins C dx fs) ∧ TyX K H y t ∧ PySem.W.notFirst K C t = true ∧ sp [x, y] H (fun v H' => ∃ b, v = .bl b ∧ Q (.bl b) H') E0
theorem leO (O : OwnM X.prog X.w X.K X.mg X.base CX C "__le__" k ps sp) (hr : Room k X.A) (hx : Passes CX X E0) : OpR X (compareOp .LtE) (rLeO X.K C sp) := by
  obtain ⟨f, fd, F, M, hi, hb⟩ := O.ex
  intro pins s σ H x y v u Q I rx ry hq
  obtain ⟨a, dx, fs, t, rfl, ha, ty, hn, q⟩ := hq
  cases (show v = Value.ref a from rx)
  obtain ⟨P, Z, p, _⟩ := kit_of I ry ty
  obtain ⟨mA, J, _⟩ := ins_get I.hok ha
  obtain ⟨od, J, _⟩ := J.look
  obtain ⟨m, hF⟩ := I.fr
  show wpAny (model X.prog X.w) X.A (richCompare .LtE (.ref a) u) (EP X pins σ Q) X.xe s
  refine PySem.W.cmp_K (op := .LtE) (tb := t) hr.units0 hF I.ok.mod.kin J (Z.ty _ _ I.kIn p) hn M.at_ hi ?_
  refine wpAny_mono (run_at (vs := [.ref a, y]) F hr rfl hb hx I (.cons rfl (.cons ry .nil)) q) (fun v' s' z => ?_) fun _ _ e => e
  obtain ⟨w', H', I', rv, b, rfl, q'⟩ := z
  cases rv
  exact ⟨.bl b, H', I', rfl, q'⟩
/-- the built-in types that may stand to the right of an own + -/
def addTy (t : Value) : Prop := t = .type "int" ∨ t = .type "bool" ∨ t = .type "str"
structure AddM (K : PySem.W.Frag) (C : Addr) : Prop where
  self : PySem.W.selfFirst K C = true
  radd : PySem.W.findIn K (.ref C) "__radd__" = some none
  int : PySem.W.subIn K (.type "int") (.ref C) = some false
  bool : PySem.W.subIn K (.type "bool") (.ref C) = some false
  str : PySem.W.subIn K (.type "str") (.ref C) = some false
/-- x + y, x an instance of the class at C with an own __add__; what is raised is wished for -/
def tAddO (K : PySem.W.Frag) (C : Addr) (sp : Sp) (E : St → XK) (ta tb : TE) : TE := fun σ H Q => ta σ H fun x H1 => tb σ H1 fun y H2 => ∃ a dx fs t, x = .ref a ∧ H2 a = some (.ins C dx fs) ∧ TyX K H2 y t ∧ addTy t ∧ sp [x, y] H2 Q (E σ)
theorem pe_addO {W : WX} {a b : Expr} {ta tb : TE} {pos : Pos} (O : OwnM X.prog X.w X.K X.mg X.base (L2.CX X.prog X.w) C "__add__" k ps sp) (M' : AddM X.K C) (hr : Room k X.A) (tk : Takes X W) (ha : PE X a ta) (hb' : PE X b tb) : PE X (.BinOp a .Add b pos) (tAddO X.K C sp (WE W) ta tb) := by
  obtain ⟨f, fd, F, M, hi, hb⟩ := O.ex
  refine ⟨fun pins s σ H Q I h => ?_⟩
  refine wpAny_BinOp (binT ha hb' I h fun v u s2 x y H2 I2 rx ry q => ?_)
  obtain ⟨o, dx, fs, t, rfl, ho, ty, hty, q⟩ := q
  cases (show v = Value.ref o from rx)
  obtain ⟨P, Z, p, _⟩ := kit_of I2 ry ty
  obtain ⟨mA, J, _⟩ := ins_get I2.hok ho
  obtain ⟨od, J, _⟩ := J.look
  obtain ⟨m, hF⟩ := I2.fr
  have hcall := run_fnSD (us := [.ref o, u]) (vs := [.ref o, y]) F hr hb .nil (passAt tk σ) I2 (.cons rfl (.cons ry .nil)) (by exact q)
  have hcb : wpAny (model X.prog X.w) X.A (call (.ref f) [.ref o, u]) (PySem.W.CmpBack (EP X pins σ Q)) X.xe s2 := wpAny_mono hcall (fun w s' z => by
    obtain ⟨z', H', I', rz, qz⟩ := z
    exact SlX.cmpback rz ⟨z', H', I', rz, qz⟩) fun _ _ x => x
  rcases hty with rfl | rfl | rfl
  · exact PySem.W.binop_KB (op := .Add) (T := "int") (fT := true) (rT := some (.builtin "int.__radd__")) hF I2.ok.mod.kin J (Z.ty _ _ I2.kIn p) M'.self M.at_ M'.radd PySem.F.fills_int_add M'.int (by rw [typeLookup_type, builtinLookup_eq_fast]; kernel_rfl) hi hcb
  · exact PySem.W.binop_KB (op := .Add) (T := "bool") (fT := true) (rT := some (.builtin "int.__radd__")) hF I2.ok.mod.kin J (Z.ty _ _ I2.kIn p) M'.self M.at_ M'.radd PySem.F.fills_bool_add M'.bool (by rw [typeLookup_type, builtinLookup_eq_fast]; kernel_rfl) hi hcb
  · exact PySem.W.binop_KB (op := .Add) (T := "str") (fT := false) (rT := none) hF I2.ok.mod.kin J (Z.ty _ _ I2.kIn p) M'.self M.at_ M'.radd PySem.noFill_str_add M'.str (by rw [typeLookup_type, builtinLookup_eq_fast]; kernel_rfl) hi hcb
/-- f(e, ..), f an instance of the class at C with an own __call__; what is raised is wished for -/
def tCallOS (C : Addr) (sp : Sp) (E : St → XK) (tf : TE) (t : TA) : TE := fun σ H Q => tf σ H fun y H1 => ∃ a, y = V.ref a ∧ t σ H1 fun vs H2 => (∃ dx fs, H2 a = some (.ins C dx fs)) ∧ sp (V.ref a :: vs) H2 Q (E σ)
theorem pe_callOS {W : WX} {fe e : Expr} {es : List Expr} {tf : TE} {t : TA} {pos : Pos} (O : OwnM X.prog X.w X.K X.mg X.base (L2.CX X.prog X.w) C "__call__" k ps sp) (hn : ∀ g, PySem.W.findIn X.K (.ref C) "__call__" = some (some (.ref g)) → PySem.W.fnIn X.K g = true) (hf : PE X fe tf) (hr : Room k X.A) (tk : Takes X W) (ha : PA X (e :: es) t)
    (ht : eval (.Call fe (e :: es) [] pos) X.env = (do callWith pos (← eval fe X.env) [] (backTo pos (starEach (e :: es) X.env)) (backToKw pos (keywordEach [] X.env))) := by rfl)
    (he : starEach (e :: es) X.env = (false, eval e X.env) :: starEach es X.env := by rfl) (hpl : (backTo pos (starEach es X.env)).any (·.1) = false := by rfl) : PE X (.Call fe (e :: es) [] pos) (tCallOS C sp (WE W) tf t) := by
  obtain ⟨f, fd, F, M, hi, hb⟩ := O.ex
  refine ⟨fun pins s σ H Q I h => ?_⟩
  refine Call_ (thn (hf.run pins s σ H _ I h) fun u s1 ⟨y, H1, I1, ry, a, ey, q⟩ => ?_) ht
  subst ey
  obtain rfl : u = Value.ref a := ry
  refine StX.callO_with (thn (ha.run pos pins s1 σ H1 _ I1 q) fun us s2 ⟨vs, H2, I2, r, ⟨dx, fs, hz⟩, q2⟩ => ?_) he hpl
  obtain ⟨ox, od, J, hd⟩ := StX.insC_at I2 (.inr ⟨dx, fs, hz⟩ : StX.InsC X H2 a C)
  refine ⟨⟨C, ox, od, J, hd⟩, wpAny_call (PySem.W.kco_code I2.kIn J hd M.at_ hi (hn f M.at_) ?_)⟩
  have r2 : Vals (V.ref a :: vs) (Value.ref a :: us) := .cons rfl r
  have hl : (Value.ref a :: us).length = ps.length := by rw [← r2.length]; exact F.len _ _ _ _ q2
  refine codeAny_mono (F.run X.A X.stack s2 H2 ⟨Value.ref a :: us, []⟩ (Value.ref a :: us) (V.ref a :: vs) Q (WE W σ) hr I2.env0 (by have := hb s2 (Value.ref a :: us) I2.kIn (by simpa using hl); simpa using this) r2 q2) fun r s' hq => ?_
  cases r with
  | error e => exact passAt tk σ pins H2 s2 e s' I2 hq
  | ok fl =>
    cases fl with
    | ret u => exact I2.after hq
    | next => exact False.elim hq
    | brk => exact False.elim hq
    | cont => exact False.elim hq
end
end L2

set_option Elab.async false
set_option linter.all false
set_option maxRecDepth 100000
set_option maxHeartbeats 4000000
/-! a generator whose consumer may change things between its items: each stretch (from a wake to the next item) has a context of its own -/
namespace L2
open PySem PySem.Spec PyProof.Rows GenW
/-- the heap's first n places -/
def headH (h : Heap) (n : Nat) : Heap := ⟨h.objs.extract 0 n, h.life⟩
def headS (s : Shared) (n : Nat) : Shared := { s with heap := headH s.heap n }
theorem headH_size {h : Heap} {n : Nat} (hn : n ≤ h.objs.size) : (headH h n).objs.size = n := by
  show (h.objs.extract 0 n).size = n
  rw [Array.size_extract]; omega
theorem headH_get {h : Heap} {n b : Nat} (hb : b < n) : (headH h n).get? b = h.get? b := by
  have e : (headH h n).objs[b]? = h.objs[b]? := by
    show (h.objs.extract 0 n)[b]? = _
    rw [Array.getElem?_extract]
    by_cases hl : b < h.objs.size
    · rw [if_pos (by omega), Nat.zero_add]
    · rw [if_neg (by omega), Array.getElem?_eq_none (by omega)]
  unfold Heap.get?
  rw [e]
theorem headH_of {h : Heap} {n b : Nat} {o : Obj} (e : (headH h n).get? b = some o) : b < n ∧ h.get? b = some o := by
  have hb : b < n := by
    have q := Heap.lt_size e
    have z : (headH h n).objs.size ≤ n := by show (h.objs.extract 0 n).size ≤ n; rw [Array.size_extract]; omega
    exact Nat.lt_of_lt_of_le q z
  exact ⟨hb, by rw [← headH_get hb]; exact e⟩

/-- what a generator and its consumer have agreed on: cs: the consumer's state while the generator runs (what is out; heap); yd: what it wants of an item; kp: what it does to the heap until it asks again -/
structure Deal where
  cs : List V → Hp → Shared → Prop
  yd : List V → V → Hp → Prop
  kp : List V → V → Hp → Hp → Prop
  ad : List Addr := []
/-- the consumer's own places, made after the generator's: they stay while it runs -/
def AdOk (ad : List Addr) (n₀ : Nat) (outer : List Env) (H : Hp) (h : Heap) : Prop := ∀ b ∈ ad, n₀ < b ∧ H b = none ∧ b ∉ frs outer ∧ ∃ o, h.get? b = some o ∧ ∀ v, o.data ≠ .cell v
/-- the state in which it asks again -/
structure Wk (P : Program) (w : World) (base : Heap) (outer : List Env) (n₀ : Nat) (ad : List Addr) (H : Hp) (s : Shared) : Prop where
  bare : AllBare s.gens
  bs : ∀ b o, base.get? b = some o → s.heap.get? b = some o ∧ H b = none
  funs : s.heap.FunFrames base outer
  low : ∀ b ∈ frs outer, b < n₀ ∧ H b = none
  hok : HOk P w H s.heap
  sz : n₀ ≤ s.heap.objs.size
  ad : AdOk ad n₀ outer H s.heap
/-- a stretch's contexts -/
structure Fam (Fm : Cx → Prop) (n₀ : Nat) (X : Cx) : Prop where
  same : ∀ Z, Fm Z → Z = { X with s_0 := Z.s_0, H_0 := Z.H_0, xe := Z.xe }
  give : ∀ s H, s.heap.objs.size = n₀ → ∃ Z, Fm Z ∧ Z.s_0 = s ∧ Z.H_0 = H
  ex : X.ex = []
  bsz : X.base.objs.size ≤ n₀
  fn : ∀ Z, Fm Z → ∀ x, Z.fn x = true
  loc : X.env.locals = n₀
def Mine (X : Cx) (ip : List (Addr × Obj)) (b : Addr) : Prop := b = X.env.locals ∨ (∃ x, X.env.cells.lookup x = some b) ∨ ∃ p ∈ X.pn ++ ip, p.1 = b
section
variable {Fm : Cx → Prop} {n₀ : Nat} {X Z : Cx} {ip : List (Addr × Obj)} {σ : St} {H H2 : Hp} {s s2 : Shared}
theorem funFrames_cut {base h : Heap} {n : Nat} : ∀ {l : List Env}, h.FunFrames base l → (∀ b ∈ frs l, b < n) → (headH h n).FunFrames base l
  | [], _, _ => trivial
  | env :: l, hh, hl => by
    obtain ⟨hk, ⟨L, o, hf, hn, ho, hd⟩, hr⟩ := hh
    have hL : L < n := hl L (List.mem_filterMap.mpr ⟨env, List.mem_cons_self, hf⟩)
    refine ⟨hk, ⟨L, o, hf, hn, (headH_get hL).trans ho, hd⟩, funFrames_cut hr fun b hb => ?_⟩
    obtain ⟨e, he, q⟩ := List.mem_filterMap.mp hb
    exact hl b (List.mem_filterMap.mpr ⟨e, List.mem_cons_of_mem _ he, q⟩)
/-- the generator's state in the next stretch -/
theorem reseat {ad : List Addr} {h0 : Heap} (F : Fam Fm n₀ X) (hZ : Fm Z) (hz : Z.s_0.heap.objs.size = n₀) (I : Inv Z (pinsAt ad h0 ++ ip) σ H s) (w : Wk X.prog X.w X.base X.outer n₀ ad H2 s2)
    (mine : ∀ b, Mine Z ip b → ∀ o, s.heap.get? b = some o → s2.heap.get? b = some o ∧ H2 b = none) :
    ∃ Z', Fm Z' ∧ Z'.s_0 = headS s2 n₀ ∧ Z'.H_0 = H2 ∧ Inv Z' (pinsAt ad s2.heap ++ ip) σ H2 s2 := by
  obtain ⟨Z', hZ', e1, e2⟩ := F.give (headS s2 n₀) H2 (headH_size w.sz)
  refine ⟨Z', hZ', e1, e2, ?_⟩
  have q1 := F.same Z hZ
  have q2 := F.same Z' hZ'
  have hex : Z.ex = [] := by rw [q1]; exact F.ex
  have hex' : Z'.ex = [] := by rw [q2]; exact F.ex
  obtain ⟨ok, os, bare, base, ⟨m, hm, loc⟩, cell, free, freeC, pin, hok, len⟩ := I
  have a1 : Z.env = X.env := by rw [q1]
  have a2 : Z'.env = X.env := by rw [q2]
  have a3 : Z.N = X.N := by rw [q1]
  have a4 : Z'.N = X.N := by rw [q2]
  have a5 : Z.pn = X.pn := by rw [q1]
  have a6 : Z'.pn = X.pn := by rw [q2]
  have a7 : Z.outer = X.outer := by rw [q1]
  have a8 : Z'.outer = X.outer := by rw [q2]
  have a9 : Z'.base = X.base := by rw [q2]
  have b1 : Z'.prog = X.prog := by rw [q2]
  have b2 : Z'.w = X.w := by rw [q2]
  have hL : ∀ o, s.heap.get? X.env.locals = some o → s2.heap.get? X.env.locals = some o ∧ H2 X.env.locals = none := fun o e => mine _ (.inl (by rw [a1])) o e
  have hC : ∀ x c, X.env.cells.lookup x = some c → ∀ o, s.heap.get? c = some o → s2.heap.get? c = some o ∧ H2 c = none := fun x c h o e => mine _ (.inr (.inl ⟨x, by rw [a1]; exact h⟩)) o e
  rw [a1] at hm loc cell free freeC pin
  rw [a3] at loc len
  have ok' : Z'.Ok := by
    obtain ⟨mod, kind, glob, blt, above, inj, has, cab, hd, frames, stk, exf, bs, bsz, noex, exfs, funs, frf⟩ := ok
    rw [q1] at mod kind glob blt above inj has cab hd frames stk
    rw [q2]
    refine ⟨mod, kind, glob, blt, ?_, inj, has, fun x c h1 h2 => ?_, hd, frames, stk, ?_, ?_, ?_, ?_, ?_, ?_, ?_⟩
    · show Z'.s_0.heap.objs.size ≤ _
      rw [e1]; show (headH s2.heap n₀).objs.size ≤ _
      rw [headH_size w.sz, ← hz]; exact above
    · show Z'.s_0.heap.objs.size ≤ _
      rw [e1]; show (headH s2.heap n₀).objs.size ≤ _
      rw [headH_size w.sz, ← hz]; exact cab x c h1 h2
    · intro b hb; have hb : b ∈ X.ex := hb; rw [F.ex] at hb; cases hb
    · intro b o e
      show Z'.s_0.heap.get? b = some o ∧ Z'.H_0 b = none
      rw [e1, e2]
      have hl : b < n₀ := Nat.lt_of_lt_of_le (Heap.lt_size e) F.bsz
      obtain ⟨r1, r2⟩ := w.bs b o e
      exact ⟨(headH_get hl).trans r1, r2⟩
    · show X.base.objs.size ≤ Z'.s_0.heap.objs.size
      rw [e1]; show _ ≤ (headH s2.heap n₀).objs.size
      rw [headH_size w.sz]; exact F.bsz
    · intro b o _ hb; have hb : b ∈ X.ex := hb; rw [F.ex] at hb; cases hb
    · intro b hb; have hb : b ∈ X.ex := hb; rw [F.ex] at hb; cases hb
    · show Z'.s_0.heap.FunFrames X.base X.outer
      rw [e1]
      exact funFrames_cut w.funs fun b hb => (w.low b hb).1
    · intro b hb
      show Z'.H_0 b = none
      rw [e2]; exact (w.low b hb).2
  refine ⟨ok', by rw [e1]; rfl, w.bare, ?_, ⟨m, ?_, ?_⟩, ?_, ?_, ?_, ?_, by rw [b1, b2]; exact w.hok, by rw [a4]; exact len⟩
  · rw [e1, e2]
    exact Un.kept fun b o e => (headH_of e).2
  · rw [a2]
    obtain ⟨o, es, ep, ho, r⟩ := hm
    exact ⟨o, es, ep, (hL o ho).1, r⟩
  · rw [a2, a4]
    intro i x v h1 h2 h3
    obtain ⟨u, r, l⟩ := loc i x v h1 h2 h3
    refine ⟨u, r, ?_⟩
    rcases l with l | ⟨k, c, e, o, ho, hd⟩
    · exact .inl l
    · exact .inr ⟨k, c, e, o, (hC x c e o ho).1, hd⟩
  · rw [a2]
    intro x c e
    obtain ⟨v, o, ho, hd⟩ := cell x c e
    exact ⟨v, o, (hC x c e o ho).1, hd⟩
  · rw [a2]
    obtain ⟨o, es, ep, ho, r⟩ := hm
    exact (hL o ho).2
  · rw [a2]
    intro x c e
    obtain ⟨v, o, ho, hd⟩ := cell x c e
    exact (hC x c e o ho).2
  · rw [a2, a6]
    intro p hp
    rcases List.mem_append.mp hp with hp | hp
    · have hp' : p ∈ Z.pn ++ (pinsAt ad h0 ++ ip) := by rw [a5]; exact List.mem_append_left _ hp
      obtain ⟨r1, r2, r3, r4, r5⟩ := pin p hp'
      obtain ⟨t1, t2⟩ := mine p.1 (.inr (.inr ⟨p, by rw [a5]; exact List.mem_append_left _ hp, rfl⟩)) p.2 r1
      refine ⟨t1, t2, r3, ?_, r5⟩
      show p.1 ∉ frs Z'.outer
      rw [a8, ← a7]; exact r4
    rcases List.mem_append.mp hp with hp | hp
    · obtain ⟨hb, e⟩ := of_pinsAt hp
      obtain ⟨w1, w2, w3, o, w4, w5⟩ := w.ad p.1 hb
      rw [e] at w4
      cases w4
      refine ⟨e, w2, ?_, ?_, w5⟩
      · rw [F.loc]; exact Nat.ne_of_gt w1
      · show p.1 ∉ frs Z'.outer
        rw [a8]; exact w3
    · have hp' : p ∈ Z.pn ++ (pinsAt ad h0 ++ ip) := List.mem_append_right _ (List.mem_append_right _ hp)
      obtain ⟨r1, r2, r3, r4, r5⟩ := pin p hp'
      obtain ⟨t1, t2⟩ := mine p.1 (.inr (.inr ⟨p, List.mem_append_right _ hp, rfl⟩)) p.2 r1
      refine ⟨t1, t2, r3, ?_, r5⟩
      show p.1 ∉ frs Z'.outer
      rw [a8, ← a7]; exact r4
end
end L2

set_option Elab.async false
set_option linter.all false
set_option maxRecDepth 100000
set_option maxHeartbeats 4000000
/-! the statements of such a generator -/
namespace L2
open PySem PySem.Spec PyProof.Rows GenW
/-- where a stretch sits -/
structure Seat (Fm : Cx → Prop) (n₀ : Nat) (Dl : Deal) (ys : List V) (s₀ : Shared) (Z : Cx) : Prop where
  fm : Fm Z
  at0 : Z.s_0 = headS s₀ n₀
  cs : Dl.cs ys Z.H_0 s₀
  sz : n₀ ≤ s₀.heap.objs.size
  ad : ∀ b ∈ Dl.ad, ∃ o, s₀.heap.get? b = some o
/-- the consumer's own things at the last wake -/
abbrev Deal.cp (Dl : Deal) (s₀ : Shared) : List (Addr × Obj) := pinsAt Dl.ad s₀.heap
theorem Seat.size {Fm : Cx → Prop} {n₀ : Nat} {Dl : Deal} {ys : List V} {s₀ : Shared} {Z : Cx} (t : Seat Fm n₀ Dl ys s₀ Z) : Z.s_0.heap.objs.size = n₀ := by
  rw [t.at0]; exact headH_size t.sz
/-- an item is handed out; then asked again -/
def GY3 (P : Program) (w : World) (base : Heap) (outer : List Env) (pn : List (Addr × Obj)) (n₀ : Nat) (Dl : Deal) : Protocol := fun n s₀ v s kap =>
  ∃ (ys : List V) (x : V) (HE H1 : Hp) (mine : Addr → Prop), n + 1 + ys.length = sizeLine ∧ RelV x v ∧ Dl.cs ys HE s₀ ∧ n₀ ≤ s₀.heap.objs.size ∧ Un (frs outer) [] HE H1 (headH s₀.heap n₀) s.heap ∧ s.os = s₀.os ∧ AllBare s.gens ∧ HOk P w H1 s.heap ∧
    (∀ p ∈ pn, s.heap.get? p.1 = some p.2 ∧ H1 p.1 = none) ∧ n₀ ≤ s.heap.objs.size ∧ (∀ p ∈ Dl.cp s₀, s.heap.get? p.1 = some p.2 ∧ H1 p.1 = none) ∧ Dl.yd ys x H1 ∧ (∀ b, mine b → H1 b = none ∧ b ∉ frs outer ∧ ∃ o, s.heap.get? b = some o) ∧ (∀ b, mine b → b ∉ Dl.ad) ∧
    ∀ H2 s2, Wk P w base outer n₀ Dl.ad H2 s2 → Dl.cs (ys ++ [x]) H2 s2 → (∀ b, mine b → ∀ o, s.heap.get? b = some o → s2.heap.get? b = some o ∧ H2 b = none) → Dl.kp ys x H1 H2 → kap (.send .none) s2
/-- where its code stands -/
structure GC3 (X : Cx) (A : Around) (c : Code) (fs : List Frame) (gd : Bool → Bool) : Prop where
  over : A.over c fs = X.A
  split : splitAtGen fs = none
  guard : fs.any Frame.guarded = false
  gd : gd false = false
section
variable (Fm : Cx → Prop) (n₀ : Nat) (X : Cx) (Dl : Deal)
abbrev Cx.Y3 : Protocol := GY3 X.prog X.w X.base X.outer X.pn n₀ Dl
/-- what follows -/
structure GK3 (ip : List (Addr × Obj)) (A : Around) (R : GenEnd) (c : Code) (fs : List Frame) (K : Flow → Sem PySem.Fin) (J : Value → Sem PySem.Fin) (D : GEnds) : Prop where
  ok : ∀ (n : Nat) (ys : List V) (s₀ s : Shared) (f : Flow) (Z : Cx), Seat Fm n₀ Dl ys s₀ Z → n + ys.length = sizeLine → SP Z (Dl.cp s₀ ++ ip) (D.at ys) f s → Seg (model X.prog X.w) A R (X.Y3 n₀ Dl) n s₀ c (K f) fs s
  exc : ∀ (n : Nat) (ys : List V) (s₀ : Shared) (e : Value) (s : Shared) (Z : Cx), Seat Fm n₀ Dl ys s₀ Z → Z.xe e s → Seg (model X.prog X.w) A R (X.Y3 n₀ Dl) n s₀ c (J e) fs s
/-- whatever follows, from this tree -/
def GRun (m : Sem Flow) (t : TGn) : Prop :=
  ∀ (A : Around) (ip : List (Addr × Obj)) (R : GenEnd) (n : Nat) (ys : List V) (s₀ : Shared) (c : Code) (fs : List Frame) (K : Flow → Sem PySem.Fin) (J : Value → Sem PySem.Fin) (gd : Bool → Bool) (lv : List Value → List Value) (s : Shared) (σ : St) (H : Hp) (D : GEnds) (Z : Cx),
    (∀ p ∈ X.pn ++ ip, p.1 ∉ Dl.ad) → Seat Fm n₀ Dl ys s₀ Z → GC3 X A c fs gd → n + ys.length = sizeLine → GK3 Fm n₀ X Dl ip A R c fs K J D → Inv Z (Dl.cp s₀ ++ ip) σ H s → t D ys σ H → Seg (model X.prog X.w) A R (X.Y3 n₀ Dl) n s₀ c (m.wrap K J gd lv) fs s
structure GQ (st : Stmt) (t : TGn) : Prop where
  run : GRun Fm n₀ X Dl (exec st X.env) t
structure GQs (st : List Stmt) (t : TGn) : Prop where
  run : GRun Fm n₀ X Dl (execs st X.env) t
end
section
variable {Fm : Cx → Prop} {n₀ : Nat} {X : Cx} {Dl : Deal} {st : Stmt} {rest : List Stmt}
theorem Fam.env (F : Fam Fm n₀ X) {Z : Cx} (h : Fm Z) : Z.env = X.env ∧ Z.A = X.A ∧ Z.prog = X.prog ∧ Z.w = X.w ∧ Z.outer = X.outer ∧ Z.pn = X.pn ∧ Z.base = X.base ∧ Z.ex = X.ex ∧ Z.K = X.K ∧ Z.calm = X.calm := by
  have q := F.same Z h
  refine ⟨?_, ?_, ?_, ?_, ?_, ?_, ?_, ?_, ?_, ?_⟩ <;> rw [q]
/-- a statement that hands out nothing -/
theorem gq_ps (F : Fam Fm n₀ X) {t : TS} (h : ∀ Z, Fm Z → PS Z st t) : GQ Fm n₀ X Dl st (tPlain t) := by
  refine ⟨fun A ip R n ys s₀ c fs K J gd lv s σ H D Z hip z g hn k I ht => seg_wrap ?_⟩
  obtain ⟨e1, e2, e3, e4, _⟩ := F.env z.fm
  have q := (h Z z.fm).run (Dl.cp s₀ ++ ip) s σ H (D.at ys) I ht
  rw [e1, e2, e3, e4] at q
  rw [g.over]
  exact wpAny_mono q (fun f s' hs => k.ok n ys s₀ s' f Z z hn hs) fun x s' hx => k.exc n ys s₀ x s' Z z hx
theorem gqs_pss (F : Fam Fm n₀ X) {t : TS} (h : ∀ Z, Fm Z → PSs Z rest t) : GQs Fm n₀ X Dl rest (tPlain t) := by
  refine ⟨fun A ip R n ys s₀ c fs K J gd lv s σ H D Z hip z g hn k I ht => seg_wrap ?_⟩
  obtain ⟨e1, e2, e3, e4, _⟩ := F.env z.fm
  have q := (h Z z.fm).run (Dl.cp s₀ ++ ip) s σ H (D.at ys) I ht
  rw [e1, e2, e3, e4] at q
  rw [g.over]
  exact wpAny_mono q (fun f s' hs => k.ok n ys s₀ s' f Z z hn hs) fun x s' hx => k.exc n ys s₀ x s' Z z hx
theorem gqs_nil : GQs Fm n₀ X Dl [] tG0 :=
  ⟨fun A ip R n ys s₀ c fs K J gd lv s σ H D Z hip z g hn k I ht => seg_execs_nil (k.ok n ys s₀ s .next Z z hn ⟨σ, H, I, ht⟩)⟩
theorem gqs_cons {t u : TGn} (a : GQ Fm n₀ X Dl st t) (b : GQs Fm n₀ X Dl rest u) : GQs Fm n₀ X Dl (st :: rest) (tGThen t u) := by
  refine ⟨fun A ip R n ys s₀ c fs K J gd lv s σ H D Z hip z g hn k I ht => seg_execs_cons ?_⟩
  refine a.run A ip R n ys s₀ c fs _ J gd lv s σ H { D with nx := fun ys' σ' H' => u D ys' σ' H' } Z hip z g hn ⟨fun n' ys' s₀' s' f Z' z' hn' hs => ?_, k.exc⟩ I ht
  cases f with
  | next =>
    obtain ⟨σ', H', I', q⟩ := hs
    exact b.run A ip R n' ys' s₀' c fs K J gd lv s' σ' H' D Z' hip z' g hn' k I' q
  | brk => exact k.ok n' ys' s₀' s' .brk Z' z' hn' hs
  | cont => exact k.ok n' ys' s₀' s' .cont Z' z' hn' hs
  | ret u => exact k.ok n' ys' s₀' s' (.ret u) Z' z' hn' hs
theorem gq_if (F : Fam Fm n₀ X) {test : Expr} {body orelse : List Stmt} {pos : Pos} {tc : TT} {t u : TGn} (hc : ∀ Z, Fm Z → PT Z test tc) (hb : GQs Fm n₀ X Dl body t) (ho : GQs Fm n₀ X Dl orelse u) : GQ Fm n₀ X Dl (.If test body orelse pos) (tGIf tc t u) := by
  refine ⟨fun A ip R n ys s₀ c fs K J gd lv s σ H D Z hip z g hn k I ht => gseg_if ?_⟩
  obtain ⟨e1, e2, e3, e4, _⟩ := F.env z.fm
  have q := (hc Z z.fm).run (Dl.cp s₀ ++ ip) s σ H _ I ht
  rw [e1, e2, e3, e4] at q
  rw [g.over]
  refine wpAny_mono q (fun b s' hb' => ?_) fun x s' hx => k.exc n ys s₀ x s' Z z hx
  obtain ⟨H2, I2, q2⟩ := hb'
  cases b with
  | true => exact hb.run A ip R n ys s₀ c fs K J gd lv s' σ H2 D Z hip z g hn k I2 q2
  | false => exact ho.run A ip R n ys s₀ c fs K J gd lv s' σ H2 D Z hip z g hn k I2 q2
/-! ### yield -/
def tYield3 (Dl : Deal) (te : TE) : TGn := fun D ys σ H => ys.length < sizeLine ∧ te σ H fun x H1 => Dl.yd ys x H1 ∧ ∀ H2, Dl.kp ys x H1 H2 → D.nx (ys ++ [x]) σ H2
theorem gq_yield (F : Fam Fm n₀ X) {e : Expr} {yp pos : Pos} {te : TE} (he : ∀ Z, Fm Z → PE Z e te) (hco : X.env.scope.isCoroutine = false := by rfl) (hi : interactive X.env = false := by rfl) : GQ Fm n₀ X Dl (.Expr (.Yield (some e) yp) pos) (tYield3 Dl te) := by
  refine ⟨fun A ip R n ys s₀ c fs K J gd lv s σ H D Z hip z g hn k I ht => ?_⟩
  obtain ⟨hlt, ht⟩ := ht
  obtain ⟨n, rfl⟩ : ∃ m, n = m + 1 := ⟨n - 1, by omega⟩
  obtain ⟨e1, e2, e3, e4, e5, e6, _⟩ := F.env z.fm
  have q := (he Z z.fm).run (Dl.cp s₀ ++ ip) s σ H _ I ht
  rw [e1, e2, e3, e4] at q
  refine seg_Expr_Yield g.split g.gd g.guard ?_ hco hi
  rw [g.over]
  refine wpAny_mono q (fun v s' hv => ?_) fun x s' hx => k.exc _ ys s₀ x s' Z z hx
  obtain ⟨x, H1, I1, rv, yd, cont⟩ := hv
  intro kap hk
  have hb := I1.base
  have hfs : Z.fs = frs X.outer := by show frs Z.outer = _; rw [e5]
  have hex : Z.ex = [] := by rw [F.same Z z.fm]; exact F.ex
  rw [hfs, hex, z.at0] at hb
  refine ⟨ys, x, Z.H_0, H1, Mine Z ip, hn, rv, z.cs, z.sz, hb, by rw [I1.os, z.at0]; rfl, I1.bare, by rw [← e3, ← e4]; exact I1.hok, fun p hp => let ⟨r1, r2, _⟩ := I1.pin p (List.mem_append_left _ (by rw [e6]; exact hp)); ⟨r1, r2⟩, ?_, fun p hp => let ⟨r1, r2, _⟩ := I1.pin p (List.mem_append_right _ (List.mem_append_left _ hp)); ⟨r1, r2⟩, yd, fun b mb => ?_, fun b mb hb => ?_, fun H2 s2 wk cs2 mk kp => ?_⟩
  · have q := I1.sz
    rw [z.size] at q
    exact q
  · rw [← hfs]
    rcases mb with rfl | ⟨y, hy⟩ | ⟨p, hp, rfl⟩
    · obtain ⟨m, ⟨o, _, _, ho, _⟩, _⟩ := I1.loc
      refine ⟨I1.free, fun hm => ?_, o, ho⟩
      obtain ⟨_, o', ho', _⟩ := I1.ok.funs.mem hm
      exact absurd (Nat.lt_of_lt_of_le (Heap.lt_size ho') I1.ok.above) (Nat.lt_irrefl _)
    · obtain ⟨v, o, ho, _⟩ := I1.cell y b hy
      refine ⟨I1.freeC y b hy, fun hm => ?_, o, ho⟩
      obtain ⟨_, o', ho', hd'⟩ := I1.funs.mem hm
      have hfn : Z.fn y = true ∨ Z.fn y = false := by cases Z.fn y <;> simp
      rcases hfn with hf | hf
      · obtain ⟨_, o2, ho2, _⟩ := I1.ok.funs.mem hm
        exact absurd (Nat.lt_of_lt_of_le (Heap.lt_size ho2) (I1.ok.cab y b hf hy)) (Nat.lt_irrefl _)
      · exact absurd hf (by rw [F.fn Z z.fm y]; exact Bool.noConfusion)
    · obtain ⟨r1, r2, r3, r4, _⟩ := I1.pin p ((List.mem_append.mp hp).elim (List.mem_append_left _) fun h => List.mem_append_right _ (List.mem_append_right _ h))
      exact ⟨r2, r4, p.2, r1⟩
  · obtain ⟨o, ho⟩ := z.ad b hb
    obtain ⟨p1, _, p3, _, p5⟩ := I1.pin (b, o) (List.mem_append_right _ (List.mem_append_left _ (mem_pinsAt hb ho)))
    rcases mb with mb | ⟨y, hy⟩ | ⟨p, hp, rfl⟩
    · exact p3 mb
    · obtain ⟨v, o2, ho2, hd2⟩ := I1.cell y b hy
      rw [p1] at ho2
      cases ho2
      exact p5 _ hd2
    · exact hip p (by rw [← e6]; exact hp) hb
  · obtain ⟨Z', f1, f2, f3, I2⟩ := reseat F z.fm z.size I1 wk mk
    refine hk .none s2 (k.ok n (ys ++ [x]) s2 s2 .next Z' ⟨f1, f2, by rw [f3]; exact cs2, wk.sz, fun b hb => let ⟨_, _, _, o, e, _⟩ := wk.ad b hb; ⟨o, e⟩⟩ ?_ ⟨σ, H2, I2, cont H2 kp⟩)
    rw [List.length_append, List.length_singleton]; omega
end
end L2

set_option Elab.async false
set_option linter.all false
set_option maxRecDepth 100000
set_option maxHeartbeats 4000000
/-! its loops -/
namespace L2
open PySem PySem.Spec PyProof.Rows GenW
section
variable {Fm : Cx → Prop} {n₀ : Nat} {X : Cx} {Dl : Deal}
theorem GC3.loop {A : Around} {c c' : Code} {fs : List Frame} {gd : Bool → Bool} {k : Result → Sem PySem.Fin} {l kp : List Value} {p : Pos} (g : GC3 X A c fs gd) (hw : c'.weight = 0) (hu : c'.cUnits = 0) : GC3 X A c' (.ret k none (gd false) l c p kp :: fs) id := by
  refine ⟨(over_loop hw hu).trans g.over, ?_, ?_, rfl⟩
  · show Option.map _ (splitAtGen fs) = none
    rw [g.split]; rfl
  · show (gd false || List.any fs Frame.guarded) = false
    rw [g.gd, g.guard]; rfl
/-- what the loop's call goes on to -/
abbrev backK (env : Env) (K : Flow → Sem PySem.Fin) (J : Value → Sem PySem.Fin) (gd : Bool → Bool) (lv : List Value → List Value) : Result → Sem PySem.Fin := fun r => ((match r with | .ok f => (.pure f : Sem Flow) | .error e => .raise e).onRaise (cameBack env)).wrap K J gd lv
/-- an exception that leaves the loop's code -/
theorem mark3 {A : Around} {ip : List (Addr × Obj)} {R : GenEnd} {c c' : Code} {fs : List Frame} {K : Flow → Sem PySem.Fin} {J : Value → Sem PySem.Fin} {gd : Bool → Bool} {lv : List Value → List Value} {D : GEnds} {p : Pos} {Z : Cx} {n : Nat} {ys : List V} {s₀ s : Shared} {x : Value}
    (F : Fam Fm n₀ X) (z : Seat Fm n₀ Dl ys s₀ Z) (hp : PassesOwn (model X.prog X.w) X.A X.env Z.xe) (g : GC3 X A c fs gd) (k : GK3 Fm n₀ X Dl ip A R c fs K J D) (hw : c'.weight = 0) (hu : c'.cUnits = 0) (hx : Z.xe x s) :
    Seg (model X.prog X.w) A R (X.Y3 n₀ Dl) n s₀ c' (marked X.env x) (.ret (backK X.env K J gd lv) none (gd false) (lv []) c p [] :: fs) s := by
  have out : ∀ (y : Value) (s' : Shared), cameBackBy (model X.prog X.w) X.A X.env Z.xe y s' → Seg (model X.prog X.w) A R (X.Y3 n₀ Dl) n s₀ c (backK X.env K J gd lv (.error y)) fs s' := fun y s' h => by
    show Seg _ _ _ _ _ _ _ (((cameBack X.env y).bind fun _ => (Sem.raise y : Sem Flow)).wrap K J gd lv) _ _
    rw [Sem.bind_eq_wrap, Sem.wrap_wrap]
    refine seg_wrap ?_
    rw [g.over]
    exact wpAny_mono h (fun _ s2 hx => k.exc n ys s₀ y s2 Z z hx) fun u s2 hx => k.exc n ys s₀ u s2 Z z hx
  unfold marked
  rw [Sem.bind_eq_wrap]
  refine seg_wrap ?_
  rw [(g.loop (k := backK X.env K J gd lv) (l := lv []) (kp := []) (p := p) hw hu).over]
  exact wpAny_bind (wpAny_mono (hp x s hx) (fun _ s2 h => wpAny_theTreesLotGoes (seg_leaf (.error x) (out x s2 h))) fun y s2 h => seg_leaf (.error y) (out y s2 h))
theorem gq_while (F : Fam Fm n₀ X) {test : Expr} {body : List Stmt} {pos : Pos} {tc : TT} {tb : TGn} (hp : ∀ Z, Fm Z → PassesOwn (model X.prog X.w) X.A X.env Z.xe) (hc : ∀ Z, Fm Z → PT Z test tc) (hb : GQs Fm n₀ X Dl body tb) : GQ Fm n₀ X Dl (.While test body [] pos) (tGWhile tc tb) := by
  refine ⟨fun A ip R n ys s₀ c fs K J gd lv s σ H D Z hip z g hn k I ⟨W, ⟨m0, w0⟩, turn⟩ => seg_While fun p => ?_⟩
  have go : ∀ (m n : Nat) (ys : List V) (s₀ s : Shared) (σ : St) (H : Hp) (Z : Cx), Seat Fm n₀ Dl ys s₀ Z → n + ys.length = sizeLine → W m ys σ H → Inv Z (Dl.cp s₀ ++ ip) σ H s →
      Seg (model X.prog X.w) A R (X.Y3 n₀ Dl) n s₀ (.whileLoop test body [] X.env) ((model X.prog X.w).den (.whileLoop test body [] X.env)) (.ret (backK X.env K J gd lv) none (gd false) (lv []) c p [] :: fs) s := by
    intro m
    induction m using Nat.strongRecOn with
    | ind m ih =>
      intro n ys s₀ s σ H Z z hn w I
      obtain ⟨e1, e2, e3, e4, _⟩ := F.env z.fm
      have gl := g.loop (k := backK X.env K J gd lv) (l := lv []) (kp := []) (p := p) (c' := .whileLoop test body [] X.env) rfl rfl
      have em : ∀ (x : Value) (env : Env), ((do noteFrame x env; theTreesLotGoes x : Sem Unit).wrap (fun _ => (.raise x : Sem PySem.Fin)) .raise id id) = marked env x := fun x env => by unfold marked; rw [Sem.bind_eq_wrap]
      refine seg_whileLoop ?_
      rw [gl.over]
      have q := (hc Z z.fm).run (Dl.cp s₀ ++ ip) s σ H _ I (turn m ys σ H w)
      rw [e1, e2, e3, e4] at q
      refine wpAny_mono q (fun b s' hb' => ?_) fun x s' hx => by rw [em]; exact mark3 F z (hp Z z.fm) g k rfl rfl hx
      obtain ⟨H2, I2, q2⟩ := hb'
      cases b with
      | false =>
        rw [if_neg Bool.false_ne_true]
        exact seg_execs_nil (seg_leaf (.ok .next) (k.ok n ys s₀ s' .next Z z hn ⟨σ, H2, I2, q2⟩))
      | true =>
        obtain ⟨N, hN, q2⟩ := q2
        rw [if_pos rfl]
        refine hb.run A ip R n ys s₀ _ _ _ _ id id s' σ H2 { D with nx := N, ct := N, bk := D.nx } Z hip z gl hn ⟨fun n' ys' s₀' s3 f Z' z' hn' hs => ?_, fun n' ys' s₀' x s3 Z' z' hx => by rw [em]; exact mark3 F z' (hp Z' z'.fm) g k rfl rfl hx⟩ I2 q2
        cases f with
        | brk => exact seg_leaf (.ok .next) (k.ok n' ys' s₀' s3 .next Z' z' hn' hs)
        | ret v => exact seg_leaf (.ok (.ret v)) (k.ok n' ys' s₀' s3 (.ret v) Z' z' hn' hs)
        | next =>
          obtain ⟨σ3, H3, I3, n3⟩ := hs
          obtain ⟨m', hm, w3⟩ := hN ys' σ3 H3 n3
          exact seg_again rfl (ih m' hm n' ys' s₀' s3 σ3 H3 Z' z' hn' w3 I3)
        | cont =>
          obtain ⟨σ3, H3, I3, n3⟩ := hs
          obtain ⟨m', hm, w3⟩ := hN ys' σ3 H3 n3
          exact seg_again rfl (ih m' hm n' ys' s₀' s3 σ3 H3 Z' z' hn' w3 I3)
  exact go m0 n ys s₀ s σ H Z z hn w0 I
theorem gq_for (F : Fam Fm n₀ X) {tg iter : Expr} {body : List Stmt} {pos : Pos} {wi : TI} {gt : TG} {tb : TGn} (hp : ∀ Z, Fm Z → PassesOwn (model X.prog X.w) X.A X.env Z.xe) (hcm : X.calm = true) (hi : ∀ Z, Fm Z → PI Z tg iter wi) (hg : ∀ Z, Fm Z → PG Z tg gt) (hb : GQs Fm n₀ X Dl body tb)
    (hs : ∀ x, foldedSetIterable iter X.env x = pure x := by intro _; rfl) : GQ Fm n₀ X Dl (.For tg iter body [] pos) (tGFor wi gt tb) := by
  refine ⟨fun A ip R n ys s₀ c fs K J gd lv s σ H D Z hip z g hn k I ht => gseg_for hs ?_⟩
  obtain ⟨e1, e2, e3, e4, e5, e6, e7, e8, e9, e10⟩ := F.env z.fm
  have q := (hi Z z.fm).run (Dl.cp s₀ ++ ip) s σ H _ I ht
  rw [e1, e2, e3, e4] at q
  rw [g.over]
  refine wpAny_mono q (fun v s1 h1 => wpAny_mono h1 (fun itv s2 h2 p => ?_) fun x s' hx => k.exc n ys s₀ x s' Z z hx) fun x s' hx => k.exc n ys s₀ x s' Z z hx
  obtain ⟨it, fp, tn, Jt, H2, rfl, I2, T, st2, f2, W, ⟨m0, w0⟩, turn⟩ := h2
  rw [e3, e4, e9] at T
  have loop : ∀ (m n i : Nat) (ys : List V) (s₀ s : Shared) (σ : St) (H : Hp) (Z : Cx), Seat Fm n₀ Dl ys s₀ Z → n + ys.length = sizeLine → W i m ys σ H → tn i s.heap → (∀ b ∈ fp, FpOk Z (Dl.cp s₀ ++ ip) H b) → Inv Z (Dl.cp s₀ ++ ip) σ H s →
      Seg (model X.prog X.w) A R (X.Y3 n₀ Dl) n s₀ (.forLoop tg (.ref it) body [] X.env) ((model X.prog X.w).den (.forLoop tg (.ref it) body [] X.env)) (.ret (backK X.env K J gd lv) none (gd false) (lv []) c p [] :: fs) s := by
    intro m
    induction m using Nat.strongRecOn with
    | ind m ih =>
      intro n i ys s₀ s σ3 H3 Z z hn w3 st3 fr3 I3
      obtain ⟨e1, e2, e3, e4, e5, e6, e7, e8, e9, e10⟩ := F.env z.fm
      have gl := g.loop (k := backK X.env K J gd lv) (l := lv []) (kp := []) (p := p) (c' := .forLoop tg (.ref it) body [] X.env) rfl rfl
      have gb := g.loop (k := backK X.env K J gd lv) (l := lv []) (kp := []) (p := p) (c' := .block [] X.env) rfl rfl
      have ee : ∀ (n : Nat) (ys : List V) (s₀ : Shared) (x : Value) (s' : Shared) (Z : Cx), Seat Fm n₀ Dl ys s₀ Z → Z.xe x s' → Seg (model X.prog X.w) A R (X.Y3 n₀ Dl) n s₀ (.forLoop tg (.ref it) body [] X.env) (marked X.env x) (.ret (backK X.env K J gd lv) none (gd false) (lv []) c p [] :: fs) s' :=
        fun n ys s₀ x s' Z z hx => mark3 F z (hp Z z.fm) g k rfl rfl hx
      refine gseg_turn ?_
      rw [gl.over]
      have cz : Z.calm = true := e10.trans hcm
      rcases turn i m ys σ3 H3 w3 with ⟨stop, qn⟩ | ⟨go, N, hN, step⟩
      · have q := T.done Z e3 e4 e9 cz i (Dl.cp s₀ ++ ip) s σ3 H3 Z.xe I3 fr3 st3 stop
        rw [e2] at q
        refine wpAny_mono q (fun r s4 hr => ?_) fun x s' hx => ee n ys s₀ x s' Z z hx
        obtain ⟨rfl, I4⟩ := hr
        refine seg_again rfl ?_
        show Seg _ A R _ n s₀ _ (((execs [] X.env).onRaise (fun x => do noteFrame x X.env; theTreesLotGoes x)) >>= fun f => (.pure (.done f) : Sem PySem.Fin)) _ s4
        exact seg_leaf (.ok .next) (k.ok n ys s₀ s4 .next Z z hn ⟨σ3, H3, I4, qn⟩)
      · have q := T.item Z e3 e4 e9 cz i (Dl.cp s₀ ++ ip) s σ3 H3 Z.xe I3 fr3 st3 go
        rw [e2] at q
        refine wpAny_mono q (fun r s4 hr => ?_) fun x s' hx => ee n ys s₀ x s' Z z hx
        obtain ⟨u, rfl, h4⟩ := hr
        refine wpAny_mono h4 (fun _ s5 h5 => ?_) fun x s' hx => ee n ys s₀ x s' Z z hx
        obtain ⟨x, H5, I5, r5, y5, st5, fr5⟩ := h5
        have stat5 : ∀ b ∈ fp, FpOk Z (Dl.cp s₀ ++ ip) H5 b := fun b hb => ⟨fr5 b hb, (fr3 b hb).2⟩
        have I5' := I5.pinned stat5 (T.obj _ _ st5)
        have q6 := (hg Z z.fm).run _ s5 σ3 H5 x u _ I5' r5 (step x H5 y5)
        rw [e1, e2, e3, e4] at q6
        refine wpAny_mono q6 (fun _ s6 h6 => ?_) fun x s' hx => ee n ys s₀ x s' Z z hx
        obtain ⟨σ6, H6, I6, q6⟩ := h6
        have hip2 : ∀ p ∈ X.pn ++ (ip ++ pinsAt fp s5.heap), p.1 ∉ Dl.ad := fun p hp hb => by
          rcases List.mem_append.mp hp with hp | hp
          · exact hip p (List.mem_append_left _ hp) hb
          rcases List.mem_append.mp hp with hp | hp
          · exact hip p (List.mem_append_right _ hp) hb
          · obtain ⟨hf, _⟩ := of_pinsAt hp
            obtain ⟨o', e'⟩ := z.ad p.1 hb
            exact (fr3 p.1 hf).2.2.2.2.2 (p.1, o') (List.mem_append_right _ (List.mem_append_left _ (mem_pinsAt hb e'))) rfl
        refine hb.run A (ip ++ pinsAt fp s5.heap) R n ys s₀ _ _ _ _ id id s6 σ6 H6 { D with nx := N, ct := N, bk := D.nx } Z hip2 z gl hn ⟨fun n' ys' s₀' s7 f Z' z' hn' hs => ?_, fun n' ys' s₀' x s7 Z' z' hx => ee n' ys' s₀' x s7 Z' z' hx⟩ (by rw [← List.append_assoc]; exact I6) q6
        have q1 := F.same Z z.fm
        have q2 := F.same Z' z'.fm
        have back : ∀ {σ7 : St} {H7 : Hp}, Inv Z' (Dl.cp s₀' ++ (ip ++ pinsAt fp s5.heap)) σ7 H7 s7 → Inv Z' (Dl.cp s₀' ++ ip) σ7 H7 s7 ∧ tn (i + 1) s7.heap ∧ ∀ b ∈ fp, FpOk Z' (Dl.cp s₀' ++ ip) H7 b := fun {σ7 H7} h7 => by
          rw [← List.append_assoc] at h7
          have pin : ∀ b ∈ fp, ∀ o, s5.heap.get? b = some o → s7.heap.get? b = some o ∧ H7 b = none := fun b hb o e => by
            obtain ⟨r1, r2, _⟩ := h7.pin (b, o) (List.mem_append_right _ (List.mem_append_right _ (mem_pinsAt hb e)))
            exact ⟨r1, r2⟩
          refine ⟨h7.unpinned, T.keep _ _ _ st5 fun b hb o e => (pin b hb o e).1, fun b hb => ?_⟩
          obtain ⟨o, e, _⟩ := T.obj _ _ st5 b hb
          obtain ⟨_, t1, t2, t3, t4, t5⟩ := fr3 b hb
          refine ⟨(pin b hb o e).2, ?_, ?_, ?_, ?_, ?_⟩
          · rw [q2]; rw [q1] at t1; exact t1
          · show b ∉ frs Z'.outer
            rw [q2]; have t2' : b ∉ frs Z.outer := t2; rw [q1] at t2'; exact t2'
          · rw [q2]; rw [q1] at t3
            show b ∈ X.ex ∨ Z'.s_0.heap.objs.size ≤ b
            rw [z'.size, ← z.size]; exact t3
          · rw [q2]; rw [q1] at t4; exact t4
          · rw [q2]; rw [q1] at t5
            intro p hp
            rcases List.mem_append.mp hp with hp | hp
            · exact t5 p (List.mem_append_left _ hp)
            rcases List.mem_append.mp hp with hp | hp
            · obtain ⟨hb', _⟩ := of_pinsAt hp
              obtain ⟨o', e'⟩ := z.ad p.1 hb'
              exact t5 (p.1, o') (List.mem_append_right _ (List.mem_append_left _ (mem_pinsAt hb' e')))
            · exact t5 p (List.mem_append_right _ (List.mem_append_right _ hp))
        cases f with
        | next =>
          obtain ⟨σ7, H7, G7, n7⟩ := hs
          obtain ⟨m', hm, w7⟩ := hN ys' σ7 H7 n7
          obtain ⟨G8, st8, fr8⟩ := back G7
          exact seg_again rfl (ih m' hm n' (i + 1) ys' s₀' s7 σ7 H7 Z' z' hn' w7 st8 fr8 G8)
        | cont =>
          obtain ⟨σ7, H7, G7, n7⟩ := hs
          obtain ⟨m', hm, w7⟩ := hN ys' σ7 H7 n7
          obtain ⟨G8, st8, fr8⟩ := back G7
          exact seg_again rfl (ih m' hm n' (i + 1) ys' s₀' s7 σ7 H7 Z' z' hn' w7 st8 fr8 G8)
        | brk =>
          obtain ⟨σ7, H7, G7, n7⟩ := hs
          exact seg_leaf (.ok .next) (k.ok n' ys' s₀' s7 .next Z' z' hn' ⟨σ7, H7, (back G7).1, n7⟩)
        | ret v =>
          obtain ⟨x7, σ7, H7, G7, r7, n7⟩ := hs
          exact seg_leaf (.ok (.ret v)) (k.ok n' ys' s₀' s7 (.ret v) Z' z' hn' ⟨x7, σ7, H7, (back G7).1, r7, n7⟩)
  exact loop m0 n 0 ys s₀ s2 σ H2 Z z hn w0 st2 f2 I2
end
end L2

set_option Elab.async false
set_option linter.all false
set_option maxRecDepth 100000
set_option maxHeartbeats 4000000
/-! a generator def by its body -/
namespace L2
open PySem PySem.Spec PyProof.Rows GenW
/-- the promise: the arguments, the heap, the deal, what is wanted at the end of all that was handed out, the exception -/
abbrev SpG3 := List V → Hp → Deal → (List V → Hp → Prop) → XK → Prop
section
variable (P : Program) (w : World) (outer : List Env) (n₀ : Nat) (Dl : Deal)
def Er3 (E : XK) (a : Addr) (g : Nat) : Value → Shared → Prop := fun e s1 => ∃ ys HE sE, Dl.cs ys HE sE ∧ n₀ ≤ sE.heap.objs.size ∧ CX P w outer HE (headS sE n₀) E e s1 ∧ s1.heap.IsGen a g
def Fin3 (Q : List V → Hp → Prop) : Nat → Shared → Shared → Prop := fun n s₀ s1 => ∃ ys HE H', Dl.cs ys HE s₀ ∧ n₀ ≤ s₀.heap.objs.size ∧ s1.os = s₀.os ∧ AllBare s1.gens ∧ Un (frs outer) [] HE H' (headH s₀.heap n₀) s1.heap ∧ HOk P w H' s1.heap ∧ (∀ p ∈ Dl.cp s₀, s1.heap.get? p.1 = some p.2 ∧ H' p.1 = none) ∧ Q ys H'
abbrev End3 (Q : List V → Hp → Prop) (E : XK) (a : Addr) (g : Nat) : GenEnd := fun n s₀ r s1 => ((r = .ok (.ret .none) ∨ r = .ok .next) ∧ Fin3 P w outer n₀ Dl Q n s₀ s1) ∨ ∃ e, r = .error e ∧ Er3 P w outer n₀ Dl E a g e s1
end
/-- the deal, with the consumer's places -/
abbrev Deal.at (Dl : Deal) (ad : List Addr) : Deal := { Dl with ad := ad }
/-- what its call gives -/
def Made3 (P : Program) (w : World) (k : Nat) (base : Heap) (outer : List Env) (H : Hp) (s : Shared) (AD : Deal → (List V → Hp → Prop) → Prop) (E : XK) (u : Value) (s' : Shared) : Prop :=
  ∃ (a : Addr) (g : Nat) (c : Code) (go : Obj), u = .ref a ∧ s.heap.objs.size ≤ a ∧ a < s'.heap.objs.size ∧ s'.heap.get? a = some go ∧ (∀ h : Heap, h.get? a = some go → h.IsGen a g) ∧ s'.gens[g]? = some (.fresh c) ∧ s'.os = s.os ∧ AllBare s'.gens ∧ (∀ b o, s.heap.get? b = some o → s'.heap.get? b = some o) ∧
    ∀ (A : Around) (s2 : Shared) (Dl : Deal) (Q : List V → Hp → Prop), AD Dl Q → Room k A → A.frames = some outer → (∀ b o, s'.heap.get? b = some o → s2.heap.get? b = some o) → s2.os = s.os → AllBare s2.gens → (∀ b ∈ Dl.ad, s'.heap.objs.size ≤ b ∧ ∃ o, s2.heap.get? b = some o ∧ ∀ v, o.data ≠ .cell v) → Dl.cs [] H s2 →
      Seg (model P w) A (End3 P w outer s.heap.objs.size Dl Q E a g) (GY3 P w base outer [(a, go)] s.heap.objs.size Dl) sizeLine s2 c ((model P w).den c) [] s2
structure GFn3 (P : Program) (w : World) (K : PySem.W.Frag) (mg : Str → Option Value) (base : Heap) (k : Nat) (f : Addr) (fd : FuncData) (ps : List Str) (sp : SpG3) : Prop where
  len : ∀ vs H Dl Q E, sp vs H Dl Q E → vs.length = ps.length
  run : ∀ (A : Around) (outer : List Env) (s : Shared) (H : Hp) (args : Args) (us : List Value) (vs : List V) (AD : Deal → (List V → Hp → Prop) → Prop) (E : XK), (∃ Dl Q, AD Dl Q) → Room k A → Env0 P w K mg base A outer s H → BindsTo s fd args (ps.zip us) → Vals vs us → (∀ Dl Q, AD Dl Q → sp vs H Dl Q E) →
    codeAny (model P w) A (.call (.ref f) args) (fun r s' => match r with | .ok (.ret u) => Made3 P w k base outer H s AD E u s' | _ => False) s
section
variable {P : Program} {w : World} {K : PySem.W.Frag} {mg : Str → Option Value} {base : Heap}
/-- the family of a call: its frame stands at n₀ -/
def FmG (P : Program) (w : World) (K : PySem.W.Frag) (mg : Str → Option Value) (base : Heap) (N : List Str) (qual : Str) (scope : Scope) (f : Addr) (cd : Value) (A : Around) (outer : List Env) (E : XK) (pn : List (Addr × Obj)) (n₀ : Nat) (Z : Cx) : Prop :=
  ∃ s H, s.heap.objs.size = n₀ ∧ Z = gcxOf P w K mg base N qual scope f cd A outer s H E pn
theorem fam_g {N : List Str} {qual : Str} {scope : Scope} {f : Addr} {cd : Value} {A : Around} {outer : List Env} {E : XK} {pn : List (Addr × Obj)} {s : Shared} {H : Hp} (hb : base.objs.size ≤ s.heap.objs.size) :
    Fam (FmG P w K mg base N qual scope f cd A outer E pn s.heap.objs.size) s.heap.objs.size (gcxOf P w K mg base N qual scope f cd A outer s H E pn) := by
  refine ⟨fun Z ⟨s', H', hs, hZ⟩ => ?_, fun s' H' hs => ⟨_, ⟨s', H', hs, rfl⟩, rfl, rfl⟩, rfl, hb, fun Z ⟨s', H', hs, hZ⟩ x => (by rw [hZ]; rfl), rfl⟩
  subst hZ
  unfold gcxOf cxOf
  rw [hs]
/-- a member's room -/
theorem FmG.room {qual : Str} {scope : Scope} {f : Addr} {cd : Value} {A : Around} {s s' : Shared} {k : Nat} (hr : Room k (A.deeper (envOfC qual scope s.heap.objs.size f cd))) (hs : s'.heap.objs.size = s.heap.objs.size) :
    Room k (A.deeper (envOfC qual scope s'.heap.objs.size f cd)) := by rw [hs]; exact hr
theorem gfn3_of {k : Nat} {f : Addr} {name qual : Str} {params : Arguments} {body : List Stmt} {scope : Scope} {dV kV doc pm cdv ct oc : Value} {an od : Option Addr}
    {osl : Array (Option Value)} {N ps : List Str} {sp : SpG3} (lk : K.lookup f = some ⟨oc, od, .func (PySem.W.fnOf name qual params body scope dV kV doc pm an cdv ct), osl⟩) (hcd : PySem.W.codeIn K cdv qual = true) (S : GScope N ps scope)
    (len : ∀ vs H Dl Q E, sp vs H Dl Q E → vs.length = ps.length)
    (hbody : ∀ (A : Around) (outer : List Env) (s : Shared) (H : Hp) (vs : List V) (Dl : Deal) (Q : List V → Hp → Prop) (E : XK) (pn : List (Addr × Obj)), base.objs.size ≤ s.heap.objs.size → Room k (A.deeper (envOfC qual scope s.heap.objs.size f cdv)) → sp vs H Dl Q E →
      ∃ t, GQs (FmG P w K mg base N qual scope f cdv A outer E pn s.heap.objs.size) s.heap.objs.size (gcxOf P w K mg base N qual scope f cdv A outer s H E pn) Dl body t ∧ t { nx := fun ys _ H' => Q ys H', rt := fun ys v H' => v = .non ∧ Q ys H' } [] (start N vs) H) :
    GFn3 P w K mg base (k + 1) f (PySem.W.fnOf name qual params body scope dV kV doc pm an cdv ct) ps sp := by
  refine ⟨len, fun A outer s H args us vs AD E hAD hr e0 hb r hsp => ?_⟩
  obtain ⟨Dl0, Q0, hA0⟩ := hAD
  have hl := len _ _ _ _ _ (hsp Dl0 Q0 hA0)
  have kin : K.In s.heap := e0.mod.kin.keeps fun b o e => (e0.bs b o e).1
  have lim : s.heap.NoLimit := e0.mod.nolimit.keeps fun b o e => (e0.bs b o e).1
  have kinds : ∀ y ∈ ps.zip us, scope.names.lookup y.1 = some .local ∨ (scope.names.lookup y.1 = some .cell ∧ ((cellsFrom (s.heap.objs.size + 1) scope.names []).lookup y.1).isSome = true) := fun ⟨n, v⟩ hy =>
    (S.par n (List.of_mem_zip hy).1).imp id fun q => ⟨q, PySem.W.cellsFrom_some _ _ _ (.inl q)⟩
  refine codeAny_call_generator hr.depth (kin _ _ lk) rfl S.co S.gen rfl (PySem.W.codeRec_of kin hcd) (hb _ _ _ _ (wpAny_newFunctionEnv_cells S.kind kinds fun env he s1 x => ?_))
  subst he
  have lim1 : s1.heap.NoLimit := lim.keeps x.toInCall.keep
  refine ⟨lim1, ?_⟩
  obtain ⟨h1, tk, es1, hk1⟩ := x.done
  have os1 : s1.os = s.os := by rw [es1]
  have gen1 : s1.gens = s.gens := by rw [es1]
  have lt1 : s.heap.objs.size < s1.heap.objs.size := x.toInCall.ns.lt
  have kp1 : ∀ b o, s.heap.get? b = some o → s1.heap.get? b = some o := x.toInCall.keep
  have main : ∀ (go : Obj) (nm qn : Value) (tk2 : Nat), go.cls = .type "generator" → go.data = .fields #[.int s1.gens.size 0, nm, qn] → go.slots = #[] → (∀ h : Heap, (h.push go).get? h.objs.size = some go) →
      Made3 P w (k + 1) base outer H s AD E (.ref s1.heap.objs.size) { s1 with gens := s1.gens.push (.fresh (.func body (envOfC qual scope s.heap.objs.size f cdv))), toks := tk2, heap := s1.heap.push go } := by
    intro go nm qn tk2 hgc hgd hgs hgp
    have isg : ∀ h : Heap, h.get? s1.heap.objs.size = some go → h.IsGen s1.heap.objs.size s1.gens.size := fun h e => ⟨go, nm, qn, e, hgc, hgd, hgs⟩
    refine ⟨s1.heap.objs.size, s1.gens.size, _, go, rfl, Nat.le_of_lt lt1, ?_, hgp _, isg, Array.getElem?_push_size .., os1, ?_, fun b o e => Heap.get?_push_of_some _ (kp1 b o e), ?_⟩
    · show _ < (s1.heap.push _).objs.size
      rw [Heap.size_push]; exact Nat.lt_succ_self _
    · exact AllBare.push (by rw [gen1]; exact e0.bare) rfl
    intro Aw s2 Dl Q hA hrw hfr hk2 hos hba had hcs
    have kp2 : ∀ b o, s1.heap.get? b = some o → s2.heap.get? b = some o := fun b o e => hk2 b o (Heap.get?_push_of_some _ e)
    have kp3 : ∀ b o, s.heap.get? b = some o → s2.heap.get? b = some o := fun b o e => kp2 b o (kp1 b o e)
    have hea : s2.heap.get? s1.heap.objs.size = some go := hk2 s1.heap.objs.size go (hgp _)
    have sz2 : s.heap.objs.size ≤ s2.heap.objs.size := Nat.le_of_lt (Nat.lt_trans lt1 (Heap.lt_size hea))
    have e0w : Env0 P w K mg base Aw outer s H := ⟨hfr, e0.mod, e0.bs, e0.bsz, e0.funs, e0.frf, e0.hok, e0.bare⟩
    obtain ⟨t, ht, hq⟩ := hbody Aw outer s H vs Dl Q E [(s1.heap.objs.size, go)] e0.bsz (hrw.deeper _) (hsp Dl Q hA)
    have I1 : Inv (gcxOf P w K mg base N qual scope f cdv Aw outer s H E []) [] (start N vs) H s1 := inv_startG S hrw.hd e0w hl r x
    have I2 : Inv (gcxOf P w K mg base N qual scope f cdv Aw outer s H E []) [] (start N vs) H s2 := I1.call' (ch := []) (hos.trans os1.symm) (Un.kept kp2) (I1.hok.kept kp2) hba fun b z => nomatch z
    have hn1 : H s1.heap.objs.size = none := I1.hok.fresh (Nat.le_refl _)
    have hado : AdOk Dl.ad s.heap.objs.size outer H s2.heap := fun b hb => by
      obtain ⟨q1, q2⟩ := had b hb
      have q1 : (s1.heap.push go).objs.size ≤ b := q1
      rw [Heap.size_push] at q1
      have q3 : s1.heap.objs.size ≤ b := Nat.le_of_succ_le q1
      exact ⟨Nat.lt_of_lt_of_le lt1 q3, I1.hok.fresh q3, I1.nofs q3, q2⟩
    have I3 : Inv (gcxOf P w K mg base N qual scope f cdv Aw outer s H E [(s1.heap.objs.size, go)]) (pinsAt Dl.ad s2.heap ++ []) (start N vs) H s2 := Inv.pinnedG I2 fun p hp => by
      rcases List.mem_append.mp hp with hp | hp
      · rw [List.mem_singleton.mp hp]
        exact ⟨hea, hn1, Nat.ne_of_gt lt1, I1.nofs (Nat.le_refl _), fun v q => by rw [hgd] at q; cases q⟩
      · rw [List.append_nil] at hp
        obtain ⟨hb, e⟩ := of_pinsAt hp
        obtain ⟨w1, w2, w3, o, w4, w5⟩ := hado p.1 hb
        rw [e] at w4
        cases w4
        exact ⟨e, w2, Nat.ne_of_gt w1, w3, w5⟩
    have F := fam_g (P := P) (w := w) (K := K) (mg := mg) (N := N) (qual := qual) (scope := scope) (f := f) (cd := cdv) (A := Aw) (outer := outer) (E := E) (pn := [(s1.heap.objs.size, go)]) (s := s) (H := H) e0.bsz
    have wk : Wk P w base outer s.heap.objs.size Dl.ad H s2 := by
      refine ⟨hba, fun b o e => ⟨kp3 b o (e0.bs b o e).1, (e0.bs b o e).2⟩, Heap.FunFrames.of_keeps (fun b o e _ => ⟨o, kp3 b o e, rfl⟩) e0.funs, fun b hb => ?_, e0.hok.kept kp3, sz2, hado⟩
      obtain ⟨_, o, ho, _⟩ := e0.funs.mem hb
      exact ⟨Heap.lt_size ho, e0.frf b hb⟩
    obtain ⟨Z, f1, f2, f3, I4⟩ := reseat F (Z := gcxOf P w K mg base N qual scope f cdv Aw outer s H E [(s1.heap.objs.size, go)]) ⟨s, H, rfl, rfl⟩ rfl I3 wk fun b mb o e => ⟨e, by
      rcases mb with rfl | ⟨y, hy⟩ | ⟨p, hp, rfl⟩
      · exact I3.free
      · exact I3.freeC y b hy
      · exact (I3.pin p ((List.mem_append.mp hp).elim (List.mem_append_left _) fun h => (by cases h))).2.1⟩
    have zz : Seat (FmG P w K mg base N qual scope f cdv Aw outer E [(s1.heap.objs.size, go)] s.heap.objs.size) s.heap.objs.size Dl [] s2 Z := ⟨f1, f2, by rw [f3]; exact hcs, sz2, fun b hb => let ⟨_, _, _, o, e, _⟩ := hado b hb; ⟨o, e⟩⟩
    have fin : ∀ {n : Nat} {ys : List V} {s₀ s' : Shared} {σ' : St} {H' : Hp} {Z : Cx}, Seat (FmG P w K mg base N qual scope f cdv Aw outer E [(s1.heap.objs.size, go)] s.heap.objs.size) s.heap.objs.size Dl ys s₀ Z → Inv Z (Dl.cp s₀ ++ []) σ' H' s' → Q ys H' → Fin3 P w outer s.heap.objs.size Dl Q n s₀ s' := fun {n ys s₀ s' σ' H' Z} z I q => by
      obtain ⟨e1, e2, e3, e4, e5, e6, e7, e8, _⟩ := F.env z.fm
      have hb := I.base
      have hfs : Z.fs = frs outer := by show frs Z.outer = _; rw [e5]; rfl
      have hex : Z.ex = [] := by rw [e8]; rfl
      rw [hfs, hex, z.at0] at hb
      have hk := I.hok
      rw [e3, e4] at hk
      exact ⟨ys, Z.H_0, H', z.cs, z.sz, by rw [I.os, z.at0]; rfl, I.bare, hb, hk, fun p hp => let ⟨r1, r2, _⟩ := I.pin p (List.mem_append_right _ (List.mem_append_left _ hp)); ⟨r1, r2⟩, q⟩
    have hip0 : ∀ p ∈ [(s1.heap.objs.size, go)] ++ ([] : List (Addr × Obj)), p.1 ∉ Dl.ad := fun p hp hb => by
      rw [List.append_nil] at hp
      have q1 : (s1.heap.push go).objs.size ≤ p.1 := (had p.1 hb).1
      rw [Heap.size_push, List.mem_singleton.mp hp] at q1
      exact absurd q1 (Nat.not_succ_le_self _)
    refine seg_func ?_
    refine ht.run Aw [] _ sizeLine [] s2 _ [] _ _ id id s2 (start N vs) H _ Z hip0 zz ⟨over_func, rfl, rfl, rfl⟩ (Nat.add_zero _) ⟨fun n ys s₀ s' fl Z z hn hs => ?_, fun n ys s₀ e s' Z z hx => ?_⟩ I4 hq
    · cases fl with
      | next =>
        obtain ⟨σ', H', I, q⟩ := hs
        exact seg_end (.ok (.ret .none)) (.inl ⟨.inl rfl, fin z I q⟩)
      | brk => obtain ⟨_, _, _, q⟩ := hs; exact False.elim q
      | cont => obtain ⟨_, _, _, q⟩ := hs; exact False.elim q
      | ret u =>
        obtain ⟨v, σ', H', I, rv, rfl, q⟩ := hs
        obtain rfl : u = Value.none := rv
        exact seg_end (.ok (.ret .none)) (.inl ⟨.inl rfl, fin z I q⟩)
    · obtain ⟨s', H', hs', rfl⟩ := z.fm
      refine seg_wrap ?_
      rw [over_func]
      have hx' : wpAny (model P w) (Aw.deeper (envOfC qual scope s'.heap.objs.size f cdv)) (leaving (envOfC qual scope s'.heap.objs.size f cdv) e) (fun _ s'' => CX P w outer H' s' E e s'' ∧ ∀ p ∈ [(s1.heap.objs.size, go)], s''.heap.get? p.1 = some p.2) (fun _ _ => False) _ := hx
      rw [hs'] at hx'
      refine wpAny_mono hx' (fun _ s'' q => seg_end (.error e) (.inr ⟨e, rfl, ys, H', s₀, z.cs, z.sz, ?_, isg _ (q.2 _ (List.mem_singleton.mpr rfl))⟩)) fun _ s'' q => q.elim
      have ea : s' = headS s₀ s.heap.objs.size := z.at0
      rw [← ea]; exact q.1
  exact main _ _ _ _ rfl rfl rfl fun h => Heap.get?_push_size _ rfl
structure OwnG3 (P : Program) (w : World) (K : PySem.W.Frag) (mg : Str → Option Value) (base : Heap) (x : Str) (k : Nat) (ps : List Str) (sp : SpG3) : Prop where
  ex : ∃ (f : Addr) (fd : FuncData), GFn3 P w K mg base k f fd ps sp ∧ mg x = some (.ref f) ∧ PySem.W.keepIn K (.ref f) = true ∧ Binds K fd ps []
theorem DefAt.ownG3 {x : Str} {st : Stmt} {ps : List Str} {k : Nat} {sp : SpG3} (D : DefAt K mg x st ps) (h : ∀ f fd, Fun K x x st f fd → GFn3 P w K mg base k f fd ps sp) : OwnG3 P w K mg base x k ps sp := by
  obtain ⟨f, fd, F, hm, hb⟩ := D.ex
  exact ⟨f, fd, h f fd F, hm, F.kp, hb⟩
/-- .. by its text -/
theorem gfn3_fun {x qual : Str} {st : Stmt} {f : Addr} {fd : FuncData} {N ps : List Str} {k : Nat} {sp : SpG3} (F : Fun K x qual st f fd) (S : GScope N ps (defScope st)) (len : ∀ vs H Dl Q E, sp vs H Dl Q E → vs.length = ps.length)
    (hbody : ∀ (cdv : Value) (A : Around) (outer : List Env) (s : Shared) (H : Hp) (vs : List V) (Dl : Deal) (Q : List V → Hp → Prop) (E : XK) (pn : List (Addr × Obj)) (Fm : Cx → Prop) (X : Cx), Fm = FmG P w K mg base N qual (defScope st) f cdv A outer E pn s.heap.objs.size → X = gcxOf P w K mg base N qual (defScope st) f cdv A outer s H E pn →
      Fam Fm s.heap.objs.size X → Room k (A.deeper (envOfC qual (defScope st) s.heap.objs.size f cdv)) → sp vs H Dl Q E →
      ∃ t, GQs Fm s.heap.objs.size X Dl (defBody st) t ∧ t { nx := fun ys _ H' => Q ys H', rt := fun ys v H' => v = .non ∧ Q ys H' } [] (start N vs) H) : GFn3 P w K mg base (k + 1) f fd ps sp := by
  obtain ⟨oc, od, kV, doc, pm, an, cdv, ct, osl, rfl, lk, hcd⟩ := F.ex
  exact gfn3_of lk hcd S len fun A outer s H vs Dl Q E pn hb hr hsp => hbody cdv A outer s H vs Dl Q E pn _ _ rfl rfl (fam_g hb) hr hsp
end
end L2

set_option Elab.async false
set_option linter.all false
set_option maxRecDepth 100000
set_option maxHeartbeats 4000000
/-! the consumer: what it may do between the items -/
namespace L2
open PySem PySem.Spec PyProof.Rows GenW
/-- no generator is touched, what is untracked stays -/
structure Soft (X : Cx) (s : Shared) (H : Hp) (s' : Shared) (H' : Hp) : Prop where
  gens : s'.gens = s.gens
  size : s.heap.objs.size ≤ s'.heap.objs.size
  keep : ∀ b o, s.heap.get? b = some o → H b = none → b ∉ frs X.stack → s'.heap.get? b = some o ∧ H' b = none
theorem Soft.refl {X : Cx} {s : Shared} {H : Hp} : Soft X s H s H := ⟨rfl, Nat.le_refl _, fun b o e n _ => ⟨e, n⟩⟩
theorem Soft.trans {X : Cx} {s1 s2 s3 : Shared} {H1 H2 H3 : Hp} (a : Soft X s1 H1 s2 H2) (b : Soft X s2 H2 s3 H3) : Soft X s1 H1 s3 H3 :=
  ⟨b.gens.trans a.gens, Nat.le_trans a.size b.size, fun c o e n hc => let ⟨e2, n2⟩ := a.keep c o e n hc; b.keep c o e2 n2 hc⟩
/-- a target -/
structure PGq (X : Cx) (tg : Expr) (t : TG) : Prop where
  run : ∀ (pins : List (Addr × Obj)) (s : Shared) (σ : St) (H : Hp) (v : V) (u : Value) (Q : St → Hp → Prop), Inv X pins σ H s → RelV v u → t v σ H Q →
    wpAny (model X.prog X.w) X.A (assign tg X.env u) (fun _ s' => ∃ σ' H', Inv X pins σ' H' s' ∧ Soft X s H s' H' ∧ Q σ' H') X.xe s
/-- an expression -/
structure PEq (X : Cx) (e : Expr) (t : TE) : Prop where
  run : ∀ (pins : List (Addr × Obj)) (s : Shared) (σ : St) (H : Hp) (Q : VK), Inv X pins σ H s → t σ H Q → wpAny (model X.prog X.w) X.A (eval e X.env) (fun u s' => ∃ x H', Inv X pins σ H' s' ∧ Soft X s H s' H' ∧ RelV x u ∧ Q x H') X.xe s
/-- a body -/
structure PBq (X : Cx) (body : List Stmt) (t : TS) : Prop where
  run : ∀ (pins : List (Addr × Obj)) (s : Shared) (σ : St) (H : Hp) (D : Ends), Inv X pins σ H s → t D σ H → wpAny (model X.prog X.w) X.A (execs body X.env) (fun f s' => match f with
    | .next => ∃ σ' H', Inv X pins σ' H' s' ∧ Soft X s H s' H' ∧ D.nx σ' H'
    | .cont => ∃ σ' H', Inv X pins σ' H' s' ∧ Soft X s H s' H' ∧ D.ct σ' H'
    | .brk => ∃ σ' H', Inv X pins σ' H' s' ∧ D.bk σ' H'
    | .ret u => ∃ v σ' H', Inv X pins σ' H' s' ∧ RelV v u ∧ D.rt v H') X.xe s
section
variable {X : Cx} {pins : List (Addr × Obj)} {σ : St} {H : Hp} {s : Shared}
/-- a body that never comes to its end -/
theorem pbq_end {body : List Stmt} {t : TS} (h : PSs X body t) : PBq X body (fun D σ H => t { D with nx := fun _ _ => False, ct := fun _ _ => False } σ H) := by
  refine ⟨fun pins s σ H D I q => thn (h.run pins s σ H _ I q) fun f s' hs => ?_⟩
  cases f with
  | next => obtain ⟨_, _, _, z⟩ := hs; exact z.elim
  | cont => obtain ⟨_, _, _, z⟩ := hs; exact z.elim
  | brk => exact hs
  | ret u => exact hs
theorem peq_var {i : Nat} {x : Str} {pos : Pos} (hN : X.N[i]? = some x) (hv : X.env.scope.names.lookup x = some .local) (hd : (x == ("__debug__" : Str)) = false := by decide) : PEq X (.Name x pos) (tVar i) := by
  refine ⟨fun pins s σ H Q I ⟨v, e, h⟩ => ?_⟩
  obtain ⟨m, hn, hl⟩ := I.loc
  obtain ⟨u, r, l⟩ := hl i x v hN e (.inl hv)
  rcases l with ⟨hk, hm⟩ | ⟨hk, _⟩
  · exact wpAny_Name (wpAny_loadName_local I.ok.kind hk hn hm ⟨v, H, I, .refl, r, h⟩) hd
  · have hk' : X.env.scope.names.lookup x = some .cell ∨ X.env.scope.names.lookup x = some .free := hk
    rw [hv] at hk'
    rcases hk' with z | z <;> cases z
theorem pgq_name {i : Nat} {x : Str} {pos : Pos} (hs : X.stack = X.env :: X.outer) (hf : X.env.frame = some X.env.locals) (hN : X.N.Nodup) (hi : X.N[i]? = some x) (hv : X.env.scope.names.lookup x = some .local) : PGq X (.Name x pos) (gName i) := by
  refine ⟨fun pins s σ H v u Q I r h => wpAny_assign_Name ?_⟩
  obtain ⟨m, hn, hl⟩ := id I.loc
  have inF : X.env.locals ∈ frs X.stack := by rw [hs]; exact List.mem_filterMap.mpr ⟨_, List.mem_cons_self, hf⟩
  refine wpAny_storeName_local hv hn (fun h' hn' hb => ?_) (by rw [I.ok.kind]; rfl)
  have ne : ∀ b o, s.heap.get? b = some o → b ≠ X.env.locals → h'.get? b = some o := fun b o e z => (hb.2 b z).trans e
  have old : ∀ b o, X.s_0.heap.get? b = some o → b ≠ X.env.locals := fun b o e => Nat.ne_of_lt (Nat.lt_of_lt_of_le (Heap.lt_size e) I.ok.above)
  have hlen : i < σ.length := by rw [I.len]; exact (List.getElem?_eq_some_iff.mp hi).1
  refine ⟨_, H, ⟨I.ok, I.os, I.bare, ?_, ⟨_, hn', fun j y v' t1 t2 t3 => ?_⟩, fun y c e => ?_, I.free, I.freeC, fun p hp => ?_, ?_, by rw [List.length_set]; exact I.len⟩, ⟨rfl, Nat.le_of_eq hb.1.symm, fun b o e n hF => ⟨ne b o e fun z => hF (by rw [z]; exact inF), n⟩⟩, h⟩
  · refine ⟨fun b o e n a1 a2 => ne b o (I.base.keep b o e n a1 a2) (old b o e), fun b o e n a1 a2 => ?_, I.base.free, fun b o e a2 => ?_, I.base.tups, I.base.frzs, I.base.tbls⟩
    · obtain ⟨sl, q⟩ := I.base.slot b o e n a1 a2
      exact ⟨sl, ne b _ q (old b o e)⟩
    · obtain ⟨o', q⟩ := I.base.there b o e a2
      exact ⟨o', ne b _ q (old b o e)⟩
  · by_cases hj : j = i
    · subst hj
      rw [hi] at t1; cases t1
      rw [List.getElem?_set_self hlen] at t2
      cases t2
      exact ⟨u, r, .inl ⟨hv, if_pos rfl⟩⟩
    · rw [List.getElem?_set_ne (fun z => hj z.symm)] at t2
      obtain ⟨u', r', q⟩ := hl j y v' t1 t2 t3
      have hy : y ≠ x := fun z => hj (nodup_ix hN t1 (by rw [z]; exact hi))
      rcases q with ⟨k, e⟩ | ⟨k, c, e, o, ho, hd⟩
      · exact ⟨u', r', .inl ⟨k, (if_neg hy).trans e⟩⟩
      · exact ⟨u', r', .inr ⟨k, c, e, o, ne c o ho (I.cne y c e), hd⟩⟩
  · obtain ⟨w, o, ho, hd⟩ := I.cell y c e
    exact ⟨w, o, ne c o ho (I.cne y c e), hd⟩
  · obtain ⟨a1, a2, a3, a4, a5⟩ := I.pin p hp
    exact ⟨ne p.1 p.2 a1 a3, a2, a3, a4, a5⟩
  · intro b ob e
    refine (I.hok b ob e).stay (fun c w hc q => ne c w q fun z => ?_) (fun _ q => q) fun _ _ q => q
    subst z
    have hF := I.free
    rcases hc with hc | hc
    · rw [← hc, hF] at e; cases e
    · rw [hF] at hc; cases hc
/-- l.append(x) -/
def tAppq (i j : Nat) : TS := fun D σ H => ∃ l x xs, σ[i]? = some (some (.ref l)) ∧ σ[j]? = some (some x) ∧ H l = some (.lst xs) ∧ xs.length < sizeLine ∧ D.nx σ (upd H l (.lst (xs ++ [x])))
theorem pbq_app {i j : Nat} {l x : Str} {p1 p2 ap pos pos2 : Pos} (hi : X.N[i]? = some l) (hl : X.env.scope.names.lookup l = some .local) (hj : X.N[j]? = some x) (hx : X.env.scope.names.lookup x = some .local)
    (hbase : attributeBase (.Name l p1) "append" X.env (eval (.Name l p1) X.env) = eval (.Name l p1) X.env := by rfl)
    (hfew : ((backTo pos (starEach [.Name x p2] X.env)).all (fun x => !x.1) && (backToKw pos (keywordEach [] X.env)).all (fun x => x.1.isSome) && decide (([Expr.Name x p2] : List Expr).length + ([] : List Keyword).length + (if ([] : List Keyword).isEmpty then 0 else 1) < 30)) = true := by rfl)
    (hline : (ap.endLine == pos.line) = true := by rfl) (htr : backTo pos (starEach [.Name x p2] X.env) = [(false, eval (.Name x p2) X.env)] := by rfl)
    (hin : interactive X.env = false := by rfl) (hsw : swapsWith (.Call (.Attribute (.Name l p1) "append" ap) [.Name x p2] [] pos) none pos2.line X.env = pure false := by rfl)
    (hd : (l == ("__debug__" : Str)) = false := by decide) (hd2 : (x == ("__debug__" : Str)) = false := by decide) :
    PBq X [.Expr (.Call (.Attribute (.Name l p1) "append" ap) [.Name x p2] [] pos) pos2] (tAppq i j) := by
  refine ⟨fun pins s σ H D I ⟨a, y, xs, e1, e2, hH, hz, q⟩ => ?_⟩
  refine wpAny_execs_cons ?_
  refine wpAny_Expr ?_ hin hsw
  refine wpAny_Call_append hbase hfew hline htr (thn ((peq_var hi hl hd).run pins s σ H (fun v H' => v = .ref a ∧ H' = H) I ⟨_, e1, rfl, rfl⟩) fun u s1 ⟨x1, H1, I1, S1, r1, q1, q2⟩ => ?_)
  subst q1 q2
  cases r1
  obtain ⟨z, its, n, r, hl', e⟩ := I1.lstM hH
  refine ⟨a, its.toArray, rfl, ⟨_, n, e, rfl, rfl, rfl⟩, thn ((peq_var hj hx hd2).run pins s1 σ H1 (fun v H' => v = y ∧ H' = H1) I1 ⟨_, e2, rfl, rfl⟩) fun u2 s2 ⟨x2, H2, I2, S2, r2, q1, q2⟩ => ?_⟩
  subst q1 q2
  obtain ⟨z, its, n, r, hl', e⟩ := I2.lstM hH
  refine call_meets F.slot_list_append ⟨_, e, rfl⟩ F.entry_list_append (F.args_list_append_2 _ _) (PySem.list_append a its.toArray n u2 (by rw [List.size_toArray]; omega)) ⟨e, ?_⟩
  refine wpAny_execs_nil ⟨σ, _, I2.lset (its' := its ++ [u2]) hH e (by simp) (r.append (.cons r2 .nil)) (by rw [List.length_append, List.length_singleton]; omega), (S1.trans S2).trans ⟨rfl, Nat.le_of_eq (Heap.size_update _ _ _).symm, fun b o eb nb _ => ?_⟩, q⟩
  have hb : b ≠ a := fun z => by rw [z, hH] at nb; cases nb
  exact ⟨(Heap.get?_update_other _ _ (Ne.symm hb)).trans eb, by rw [upd_ne hb]; exact nb⟩
end
end L2

set_option Elab.async false
set_option linter.all false
set_option maxRecDepth 100000
set_option maxHeartbeats 4000000
/-! for x in f(..): over a generator def's call -/
namespace L2
open PySem PySem.Spec PyProof.Rows GenW
/-- what stands in the consumer's frame lies below n₀ -/
structure LowX (X : Cx) (pins : List (Addr × Obj)) (n₀ : Nat) : Prop where
  s0 : X.s_0.heap.objs.size ≤ n₀
  loc : X.env.locals < n₀
  cell : ∀ x c, X.env.cells.lookup x = some c → c < n₀
  pin : ∀ p ∈ X.pn ++ pins, p.1 < n₀
section
variable {X : Cx} {pins : List (Addr × Obj)} {σ : St} {H H1 : Hp} {s s1 : Shared} {n₀ : Nat}
theorem Inv.low (I : Inv X pins σ H s) : LowX X pins s.heap.objs.size :=
  ⟨I.sz, I.lt, fun x c e => let ⟨_, _, ho, _⟩ := I.cell x c e; Heap.lt_size ho, fun p hp => Heap.lt_size (I.pin p hp).1⟩
theorem Inv.gensTo (I : Inv X pins σ H s) {G : Array GenState} (h : AllBare G) : Inv X pins σ H { s with gens := G } :=
  I.call' (ch := []) rfl Un.refl I.hok h fun _ z => nomatch z
/-- the places from n₀ on -/
def upFrom (n₀ : Nat) (h : Heap) : List Addr := (List.range h.objs.size).filter fun b => decide (n₀ ≤ b)
theorem upFrom_not {h : Heap} {b : Addr} {o : Obj} (e : h.get? b = some o) (hb : b ∉ upFrom n₀ h) : b < n₀ := by
  refine Nat.lt_of_not_le fun z => hb (List.mem_filter.mpr ⟨List.mem_range.mpr (Heap.lt_size e), decide_eq_true z⟩)
theorem LowX.up (L : LowX X pins n₀) {h : Heap} : ∀ b ∈ upFrom n₀ h, (b ∈ X.ex ∨ X.s_0.heap.objs.size ≤ b) ∧ b ≠ X.env.locals ∧ (∀ x c, X.env.cells.lookup x = some c → c ≠ b) ∧ ∀ p ∈ X.pn ++ pins, p.1 ≠ b := fun b hb => by
  have hn : n₀ ≤ b := of_decide_eq_true (List.mem_filter.mp hb).2
  refine ⟨.inr (Nat.le_trans L.s0 hn), fun z => ?_, fun x c e z => ?_, fun p hp z => ?_⟩
  · rw [z] at hn; exact absurd (Nat.lt_of_lt_of_le L.loc hn) (Nat.lt_irrefl _)
  · rw [← z] at hn; exact absurd (Nat.lt_of_lt_of_le (L.cell x c e) hn) (Nat.lt_irrefl _)
  · rw [← z] at hn; exact absurd (Nat.lt_of_lt_of_le (L.pin p hp) hn) (Nat.lt_irrefl _)
/-- behind a stretch of the generator -/
theorem Inv.stretch (I : Inv X pins σ H s) (L : LowX X pins n₀) (u : Un (frs X.stack) [] H H1 (headH s.heap n₀) s1.heap) (hok : HOk X.prog X.w H1 s1.heap) (os : s1.os = s.os) (ag : AllBare s1.gens) : Inv X pins σ H1 s1 := by
  have hh : ∀ b o, s.heap.get? b = some o → b ∉ upFrom n₀ s.heap → (headH s.heap n₀).get? b = some o := fun b o e hb => (headH_get (upFrom_not e hb)).trans e
  exact I.call' (ch := upFrom n₀ s.heap) os ⟨fun b o e n hb hc => u.keep b o (hh b o e hc) n hb (fun z => nomatch z), fun b o e n hb hc => u.slot b o (hh b o e hc) n hb (fun z => nomatch z), fun b o e n hc => u.free b o (hh b o e hc) n (fun z => nomatch z),
    fun b o e hc => u.there b o (hh b o e hc) (fun z => nomatch z), u.tups, u.frzs, u.tbls⟩ hok ag L.up
/-- an exception that the generator let out -/
theorem XE.of_stretch {W : WX} {E : XK} (I : Inv X pins σ H s) (L : LowX X pins n₀) (hn : n₀ ≤ s.heap.objs.size) (hW : ∀ cls d H', E cls d H' → W cls d σ H') {u : Value} {G : Array GenState} (c : CX X.prog X.w X.stack H (headS s n₀) E u s1) (hG : AllBare G) : XE X W u { s1 with gens := G } := by
  obtain ⟨a, B, H', cls, d, rfl, fl, hok, ub, na, os, ag, hE⟩ := c
  obtain ⟨R, g1, g2⟩ := restrict s1.heap fun b => (B.get? b).isSome || decide (b ∈ frs X.stack)
  have st : B.StaysIn s1.heap := fl.1
  have gB : ∀ b o, B.get? b = some o → R.get? b = some o := fun b o e => (g1 b (by rw [e]; rfl)).trans (st b o e)
  have gF : ∀ b, b ∈ frs X.stack → R.get? b = s1.heap.get? b := fun b hb => g1 b (by simp [hb])
  have og : ∀ b o, R.get? b = some o → s1.heap.get? b = some o ∧ ((B.get? b).isSome = true ∨ b ∈ frs X.stack) := fun b o e => by
    cases q : ((B.get? b).isSome || decide (b ∈ frs X.stack)) with
    | false => rw [g2 b q] at e; cases e
    | true => exact ⟨by rw [← g1 b q]; exact e, by simpa [Bool.or_eq_true] using q⟩
  have hh : ∀ b o, s.heap.get? b = some o → b ∉ upFrom n₀ s.heap → (headS s n₀).heap.get? b = some o := fun b o e hb => (headH_get (upFrom_not e hb)).trans e
  refine ⟨a, B, { s with heap := R, gens := G, drawn := s1.drawn, toks := s1.toks }, pins, σ, H', cls, d, rfl, ?_, fun b o e hb => ?_, Heap.UpToSlots.of_keeps fun b o e => (og b o e).1, .inr (.inl fl), na, os, hG, hW _ _ _ hE⟩
  · refine I.call (ch := upFrom n₀ s.heap) ⟨fun b o e n hb hc => gB b o (ub.keep b o (hh b o e hc) n hb), fun b o e n hb hc => ?_, fun b o e n hc => ub.free b o (hh b o e hc) n, fun b o e hc => ?_, ub.tups, ub.frzs, ub.tbls⟩ (hok.kept gB) hG L.up
    · obtain ⟨sl, q⟩ := ub.slot b o (hh b o e hc) hb
      exact ⟨sl, by rw [gF b hb]; exact q⟩
    · by_cases hb : b ∈ frs X.stack
      · obtain ⟨sl, q⟩ := ub.slot b o (hh b o e hc) hb
        exact ⟨_, by rw [gF b hb]; exact q⟩
      · obtain ⟨o', q⟩ := ub.there b o (hh b o e hc) hb
        exact ⟨o', gB b o' q⟩
  · obtain ⟨e', h⟩ := og b o e
    rcases h with h | h
    · obtain ⟨o', q⟩ := Option.isSome_iff_exists.mp h
      rw [q]
      exact (st b o' q).symm.trans e'
    · exact absurd h hb
end
section
variable {X : Cx} {k : Nat} {f : Addr} {fd : FuncData} {ps : List Str} {sp : SpG3} {x : Str} {p pos pos2 : Pos} {e : Expr} {es : List Expr} {ta : TA} {tg : Expr} {gt : TG} {body : List Stmt} {tb : TS} {W : WX}
/-- Cσ: the consumer's slots, by what is out; kp: what a turn does to the heap. K: X.K, named -/
def tForG (K : PySem.W.Frag) (sp : SpG3) (ta : TA) (gt : TG) (tb : TS) (W : WX) : TS := fun D σ H => ta σ H fun vs H1 => ∃ (Cσ : List V → St → Prop) (kp : List V → V → Hp → Hp → Prop), Cσ [] σ ∧ ∀ cs,
  sp vs H1 ⟨cs, fun ys x H2 => ∀ σ', Cσ ys σ' → gt x σ' H2 fun σ2 H3 => tb { D with nx := fun σ3 H4 => Cσ (ys ++ [x]) σ3 ∧ kp ys x H2 H4, ct := fun σ3 H4 => Cσ (ys ++ [x]) σ3 ∧ kp ys x H2 H4, bk := D.nx } σ2 H3, kp, []⟩
    (fun ys H' => ∀ σ', Cσ ys σ' → D.nx σ' H') (fun cls d H' => PySem.W.subIn K cls (.type "StopIteration") = some false ∧ ∀ ys σ', Cσ ys σ' → W cls d σ' H')
theorem ps_forG {K : PySem.W.Frag} (hK : X.K = K) (O : OwnG3 X.prog X.w X.K X.mg X.base x k ps sp) (tk : Takes X W) (hp : PassesOwn (model X.prog X.w) X.A X.env X.xe) (room : Room (k + 1) X.A) (hcm : X.calm = true) (ha : PA X (e :: es) ta) (hg : PGq X tg gt) (hb : PBq X body tb) (hgl : Gl X x := by rfl)
    (hdb : (x == ("__debug__" : Str)) = false := by decide) (he : starEach (e :: es) X.env = (false, eval e X.env) :: starEach es X.env := by rfl) (hpl : (backTo pos2 (starEach es X.env)).any (·.1) = false := by rfl)
    (hs : ∀ y, foldedSetIterable (.Call (.Name x p) (e :: es) [] pos2) X.env y = pure y := by intro _; rfl) : PS X (.For tg (.Call (.Name x p) (e :: es) [] pos2) body [] pos) (tForG K sp ta gt tb W) := by
  subst hK
  obtain ⟨f, fd, G, hm, hk, hbd⟩ := O.ex
  refine ⟨fun pins s σ H D I h => ?_⟩
  refine wpAny_For (wpAny_Call_Name_kw (ld_glob I hgl hm (PySem.W.callWith_K (h₀ := X.base) I.ok.mod.kin hk (thn (ha.run pos2 pins s σ H _ I h) fun us s1 ⟨vs, H1, I1, r, Cσ, kp, c0, q⟩ => ⟨I1.kIn, ?_⟩) he hpl) hdb)) hs
  have q := q fun ys H' s' => ∃ σ', Inv X pins σ' H' s' ∧ Cσ ys σ'
  revert q
  generalize hDl : (⟨fun ys H' s' => ∃ σ', Inv X pins σ' H' s' ∧ Cσ ys σ', _, kp, []⟩ : Deal) = Dl
  intro q
  have hl2 : us.length = ps.length := by rw [← r.length]; exact G.len _ _ _ _ _ q
  have hbs := hbd s1 us I1.kIn (by rw [List.append_nil]; exact hl2)
  rw [List.append_nil] at hbs
  refine wpAny_call (codeAny_mono (G.run X.A X.stack s1 H1 ⟨us, []⟩ us vs (fun Dl' Q' => Dl' = Dl ∧ Q' = fun ys H' => ∀ σ', Cσ ys σ' → D.nx σ' H') _ ⟨_, _, rfl, rfl⟩ (room.mono (Nat.le_succ k)) I1.env0 hbs r (fun Dl' Q' z => by obtain ⟨rfl, rfl⟩ := z; exact q)) fun r s2 hq => ?_)
  cases r with
  | error _ => exact hq.elim
  | ok fl =>
  cases fl with
  | next => exact hq.elim
  | brk => exact hq.elim
  | cont => exact hq.elim
  | ret u =>
  obtain ⟨a, g, c, go, rfl, ha1, ha2, hgo, isg, hgs, hos, hba, hkp, wake⟩ := hq
  have I2 : Inv X pins σ H1 s2 := I1.call' (ch := []) hos (Un.kept hkp) (I1.hok.kept hkp) hba fun _ z => nomatch z
  refine wpAny_pyIter_gen (isg _ hgo) ?_
  have L : LowX X pins s1.heap.objs.size := I1.low
  have hfrF : ∀ b ∈ frs X.stack, b < s1.heap.objs.size := fun b hb => by
    obtain ⟨_, o, ho, _⟩ := I1.stack.mem hb
    exact Heap.lt_size ho
  have hgl2 : g < s2.gens.size := (Array.getElem?_eq_some_iff.mp hgs).1
  have mkWk : ∀ {pins' σ' H' s'}, Inv X pins' σ' H' s' → s1.heap.objs.size ≤ s'.heap.objs.size → Wk X.prog X.w X.base X.stack s1.heap.objs.size [] H' s' := fun I' hz =>
    ⟨I'.bare, I'.bs, I'.stack, fun b hb => ⟨hfrF b hb, I'.stkFree b hb⟩, I'.hok, hz, fun _ z => nomatch z⟩
  refine codeAny_forLoop_any (fun n s' => ∃ gs σ' H', s'.gens[g]? = some gs ∧ gs.Goes (model X.prog X.w) X.A.in1 (End3 X.prog X.w X.stack s1.heap.objs.size Dl (fun ys H' => ∀ σ', Cσ ys σ' → D.nx σ' H') (fun cls d H' => PySem.W.subIn X.K cls (.type "StopIteration") = some false ∧ ∀ ys σ', Cσ ys σ' → W cls d σ' H') a g)
    (GY3 X.prog X.w X.base X.stack [(a, go)] s1.heap.objs.size Dl) n (.send .none) (s'.setGen g .running) ∧ s'.heap.get? a = some go ∧ Inv X pins σ' H' s') ?_ sizeLine ⟨_, σ, H1, hgs, ⟨rfl, ?_⟩, hgo, I2⟩
  · rintro n s3 ⟨gs, σ3, H3, hgs3, hgoes, hgo3, I3⟩
    have hgl3 : g < s3.gens.size := (Array.getElem?_eq_some_iff.mp hgs3).1
    have hcd : ∃ nm qn, go.cls = .type "generator" ∧ go.data = .fields #[.int g 0, nm, qn] := by
      obtain ⟨o, nm, qn, ho, hc, hd, _⟩ := isg _ hgo
      rw [hgo] at ho; cases ho
      exact ⟨nm, qn, hc, hd⟩
    obtain ⟨nm, qn, hgc, hgd⟩ := hcd
    refine wpAny_passesOwn hp (wpAny_gsz (n := g + 1) hgl3 (next_genG (A := X.A) (I3.ok.hd hcm) I3.nolimit room.depth (isg _ hgo3) hgs3 hgoes (fun v s4 gs' hbare hv => ?_) (fun s4 hf h' hk' => ?_) fun er s4 her => ?_))
    · obtain ⟨ys, x1, HE, H4, mine, hn, rv, hcs, hz, un, os4, ag4, hok4, hpn, hz4, _, yd, hmine, _, wakes⟩ := hv
      intro hsz
      subst hDl
      obtain ⟨σE, IE, cE⟩ := hcs
      have hsz4 : g < s4.gens.size := by
        have z : (s4.setGen g gs').gens.size = s4.gens.size := setGen_size _ _ _
        have z2 : g + 1 ≤ (s4.setGen g gs').gens.size := hsz
        omega
      have I4 : Inv X pins σE H4 (s4.setGen g gs') := (IE.stretch L un hok4 os4 ag4).gensTo (allBare_setGen ag4 hbare)
      have hgo4 : s4.heap.get? a = some go := (hpn _ (List.mem_singleton.mpr rfl)).1
      refine go_of (s := s4.setGen g gs') hgo4 hgc hgd (by decide) ?_
      refine wpAny_passesOwn hp (thn (hg.run pins _ σE H4 x1 v _ I4 rv (yd σE cE)) fun _ s5 ⟨σ5, H5, I5, S5, q5⟩ => ?_)
      refine wpAny_passesOwn hp (thn (hb.run pins s5 σ5 H5 _ I5 q5) fun fl s6 q6 => ?_)
      have on : ∀ {σ6 : St} {H6 : Hp}, Inv X pins σ6 H6 s6 → Soft X s5 H5 s6 H6 → Cσ (ys ++ [x1]) σ6 ∧ kp ys x1 H4 H6 → ∃ m, m < n ∧ ∃ gs σ' H', s6.gens[g]? = some gs ∧ gs.Goes _ X.A.in1 _ _ m (.send .none) (s6.setGen g .running) ∧ s6.heap.get? a = some go ∧ Inv X pins σ' H' s6 := fun {σ6 H6} I6 S6 n6 => by
        have S := S5.trans S6
        have hgs6 : s6.gens[g]? = some gs' := by rw [S.gens]; exact setGen_at hsz4
        have I6r : Inv X pins σ6 H6 (s6.setGen g .running) := I6.gensTo (allBare_setGen I6.bare rfl)
        have wk := wakes H6 (s6.setGen g .running) (mkWk I6r (Nat.le_trans hz4 S.size)) ⟨σ6, I6r, n6.1⟩ (fun b mb o e => S.keep b o e (hmine b mb).1 (hmine b mb).2.1) n6.2
        have hna : H4 a = none := (hpn _ (List.mem_singleton.mpr rfl)).2
        cases n with
        | zero => exact False.elim wk
        | succ m => exact ⟨m, Nat.lt_succ_self m, gs', σ6, H6, hgs6, wk, (S.keep a go hgo4 hna (fun z => absurd (hfrF a z) (Nat.not_lt.mpr ha1))).1, I6⟩
      cases fl with
      | next => obtain ⟨σ6, H6, I6, S6, n6⟩ := q6; exact on I6 S6 n6
      | cont => obtain ⟨σ6, H6, I6, S6, n6⟩ := q6; exact on I6 S6 n6
      | brk => exact q6
      | ret v => exact q6
    · obtain ⟨ys, HE, H4, hcs, hz, os4, ag4, un, hok4, _, hQ⟩ := hf
      intro _
      subst hDl
      obtain ⟨σE, IE, cE⟩ := hcs
      have I4 : Inv X pins σE H4 (s4.setGen g .finished) := (IE.stretch L un hok4 os4 ag4).gensTo (allBare_setGen ag4 rfl)
      have I5 : Inv X pins σE H4 { s4.setGen g .finished with heap := h' } := I4.call' (ch := []) rfl (Un.kept hk') (I4.hok.kept hk') I4.bare fun _ z => nomatch z
      exact wpAny_passesOwn hp (wpAny_execs_nil ⟨σE, H4, I5, hQ σE cE⟩)
    · obtain ⟨ys, HE, sE, hcs, hz, cx, hge⟩ := her
      subst hDl
      obtain ⟨σE, IE, cE⟩ := hcs
      have ag4 : AllBare s4.gens := by obtain ⟨_, _, _, _, _, _, _, _, _, _, _, ag, _⟩ := cx; exact ag
      refine ⟨hge, notStop_of (E := fun cls d H' => PySem.W.subIn X.K cls (.type "StopIteration") = some false ∧ ∀ ys σ', Cσ ys σ' → W cls d σ' H') (fun _ _ _ z => z.1) (IE.ok.mod.kin.keeps fun b o eb => ?_) cx, fun _ => tk _ _ (XE.of_stretch IE L hz (fun _ _ _ z => z.2 ys σE cE) cx (allBare_setGen ag4 rfl))⟩
      obtain ⟨a', B, H', cls, d, z1, fl, z2, ub, _⟩ := cx
      have hb0 := IE.bs b o eb
      refine fl.1 b o (ub.keep b o ((headH_get ?_).trans hb0.1) hb0.2 fun hm => ?_)
      · exact Nat.lt_of_lt_of_le (Heap.lt_size (I1.ok.bs b o eb).1) L.s0
      · have := (IE.stack.mem hm).1
        rw [eb] at this; cases this
  · subst hDl
    exact wake X.A.in1 (s2.setGen g .running) _ _ ⟨rfl, rfl⟩ room.in1 I1.ok.frames (fun _ _ e => e) hos (allBare_setGen hba rfl) (fun _ z => nomatch z) ⟨σ, I2.gensTo (allBare_setGen hba rfl), c0⟩
end
end L2

set_option Elab.async false
set_option linter.all false
set_option maxRecDepth 100000
set_option maxHeartbeats 4000000
/-! enumerate(xs, start=k) over a list -/
namespace L2
open PySem PySem.Spec PyProof.Rows
section
variable {M : Model} {A : Around} {E : Value → Shared → Prop} {s : Shared} {env : Env}
theorem callWith_typeKw {pos : Pos} {T : String} {e : Expr} {rest : List Expr} {kws : List Keyword} {Q : Value → Shared → Prop}
    (h : wpAny M A (spliced (backTo pos (starEach (e :: rest) env))) (fun vs s1 => wpAny M A (evalAll ((backToKw pos (keywordEach kws env)).map (·.2))) (fun ks s2 => wpAny M A (call (.type T) vs (((backToKw pos (keywordEach kws env)).filterMap (·.1)).zip ks)) Q E s2) E s1) E s)
    (he : backTo pos (starEach (e :: rest) env) = (false, eval e env) :: backTo pos (starEach rest env)) (hpl : (backTo pos (starEach (e :: rest) env)).any (·.1) = false)
    (hall : (backToKw pos (keywordEach kws env)).all (·.1.isSome) = true) (hno : (backToKw pos (keywordEach kws env)).any (·.1.isNone) = false) :
    wpAny M A (callWith pos (.type T) [] (backTo pos (starEach (e :: rest) env)) (backToKw pos (keywordEach kws env))) Q E s := by
  have h2 : wpAny M A (evalArgs (.type T) true (backTo pos (starEach (e :: rest) env)) (backToKw pos (keywordEach kws env))) (fun a s1 => wpAny M A (call (.type T) ([] ++ a.pos) a.kw) Q E s1) E s := by
    rw [he] at h ⊢
    exact PyProof.Rows.evalArgs_kwB hall h
  unfold callWith
  refine wpAny_bind (wpAny_holding (wpAny_mono h2 (fun a s1 h1 => wpAny_bind (wpAny_standAt ?_)) fun _ _ x => x))
  simp only [hpl, hno, Bool.or_false]
  refine wpAny_bind (wpAny_pure ?_)
  exact wpAny_bind (wpAny_mono h1 (fun r s2 hr => wpAny_bind (wpAny_holding (wpAny_point (wpAny_pure hr)))) fun _ _ x => x)
end
/-- the list at a, each item in a new pair with its number from k on -/
def Itef (K : PySem.W.Frag) (a : Addr) (k : Int) : It :=
  ⟨fun i H => ∃ xs : List V, SqL K H a xs ∧ i < xs.length, fun i H v H' => ∃ T x, v = .ref T ∧ H T = none ∧ H' = upd H T (.tup [.int (k + (i : Nat)), x]) ∧ ∀ xs, SqL K H a xs → xs[i]? = some x, fun i H => ∃ xs : List V, SqL K H a xs ∧ xs.length = i⟩
theorem turn_enF {P : Program} {w : World} {K : PySem.W.Frag} {elts : List Expr} {kk : Nat} {tpos : Pos} (k : Int) (a e it : Addr) (hea : e ≠ a) (hia : a ≠ it) :
    Turn P w K (.Tuple elts kk tpos) (Itef K a k) [e, it] e (fun i h => (∃ old, IsEnum h e it (k + ((i : Nat) : Int)) old) ∧ h.IsListIter it a i ∧ e ≠ it) where
  mem := List.mem_cons_self
  obj := by
    intro i h ⟨⟨old, he⟩, ⟨o, ho, _, hd⟩, _⟩ b hb
    rcases List.mem_cons.mp hb with rfl | z
    · exact ⟨_, he, by intro v q; cases q⟩
    · cases List.mem_singleton.mp z
      exact ⟨o, ho, by intro v q; rw [hd] at q; cases q⟩
  keep := fun i h h' ⟨⟨old, he⟩, hi, hne⟩ st => ⟨⟨old, st e List.mem_cons_self _ he⟩, hi.at fun o q => st it (List.mem_cons_of_mem _ List.mem_cons_self) o q, hne⟩
  item := by
    intro X hP hw hK hc i pins s σ H E I hf ⟨⟨old, he⟩, hit, hne⟩ ⟨xs, hq, hx⟩
    subst hP hw hK
    obtain ⟨its, rv, p, hz⟩ := I.list hq
    have hl := rv.length
    have elt := Heap.lt_size he
    have ilt : it < s.heap.objs.size := let ⟨_, q, _⟩ := hit; Heap.lt_size q
    have D := Draws.list (prog := X.prog) (w := X.w) (A := X.A.in1) (I.ok.hd hc) it a hia its.toArray
    refine wpAny_pyNext_enum_itemC D he (i := i) ⟨hit, p.isList⟩ (by rw [List.size_toArray]; omega) hne (by simp [hne, hea]) fun u h' tk hP ho hst' hT hsz hk => ?_
    have hu : its[i]? = some u := by simpa using hP
    have hxx : xs[i]? = some xs[i] := List.getElem?_eq_getElem hx
    obtain ⟨u', hu', ru'⟩ := rv.get hxx
    obtain rfl : u' = u := Option.some.inj (hu'.symm.trans hu)
    refine ⟨_, rfl, wpAny_letOwnedTupleGo_enum (s := { s with heap := h', toks := tk + 1 }) ho fun h2 he2 sb => ?_⟩
    have hT2 := (sb.2 _ (Nat.ne_of_gt elt)).trans hT
    have I1 : Inv X pins σ (upd H s.heap.objs.size (.tup [.int (k + (i : Nat)), xs[i]])) { s with heap := h2, toks := tk + 1 } :=
      I.turnedNew (ch := [e, it]) (fun b ob hb q => (sb.2 b fun z => hb (by rw [z]; exact List.mem_cons_self)).trans (hk b ob (fun z => hb (by rw [z]; exact List.mem_cons_self)) (fun z => hb (by rw [z]; exact List.mem_cons_of_mem _ List.mem_cons_self)) q)) hf (Nat.le_refl _)
        ⟨by show 2 ≤ sizeLine; decide, [.int (k + (i : Nat)) tk, u'], .cons ⟨_, rfl⟩ (.cons ru' .nil), ⟨_, hT2, rfl, _, rfl⟩⟩
    refine ⟨.ref s.heap.objs.size, _, I1, rfl, ⟨_, xs[i], rfl, I.hok.fresh (Nat.le_refl _), rfl, fun ys hy => by rw [I.list_inj hy hq]; exact hxx⟩, ⟨⟨u', ?_⟩, hst'.1.at fun o q => (sb.2 it (Ne.symm hne)).trans q, hne⟩, fun b hb => ?_⟩
    · rw [show k + ((i + 1 : Nat) : Int) = k + (i : Int) + 1 by omega]; exact he2
    · have hb' : b < s.heap.objs.size := (List.mem_cons.mp hb).elim (fun z => z ▸ elt) fun z => List.mem_singleton.mp z ▸ ilt
      rw [upd_ne (Nat.ne_of_lt hb')]; exact (hf b hb).1
  done := by
    intro X hP hw hK hc i pins s σ H E I hf ⟨⟨old, he⟩, hit, hne⟩ ⟨xs, hq, hx⟩
    subst hP hw hK
    obtain ⟨its, rv, p, hz⟩ := I.list hq
    have hl := rv.length
    obtain ⟨f0, f1, f2, f3, f4, f5⟩ := hf it (List.mem_cons_of_mem _ List.mem_cons_self)
    have D := Draws.list (prog := X.prog) (w := X.w) (A := X.A.in1) (I.ok.hd hc) it a hia its.toArray
    have ei : i = its.toArray.size := by rw [List.size_toArray]; omega
    exact wpAny_pyNext_enum_endD D he (by rw [← ei]; exact ⟨hit, p.isList⟩) fun h' eb => ⟨rfl, I.turned (t' := s.toks) (fun b o hb q => eb b o hb q) f0 f1 f3 f4 f5⟩
  self := fun A i s Q E ⟨⟨_, he⟩, _⟩ h => wpAny_pyIter_enum he h
def iEnF (K : PySem.W.Frag) (k : Int) (ta : TA) : TI := fun σ H R => ta σ H fun vs H1 => ∃ a xs, vs = [.ref a] ∧ SqL K H1 a xs ∧ R (Itef K a k) H1
theorem pi_enF {X : Cx} {K : PySem.W.Frag} (hK : X.K = K) {e : Expr} {ta : TA} {p pos tpos p2 p3 : Pos} {elts : List Expr} {kk j : Nat} {k : Int} (h0 : -(2 ^ 63) ≤ k) (h1 : k < 2 ^ 63) (hg : Gl X "enumerate") (hm : X.mg "enumerate" = none) (ha : PA X [e] ta)
    (he : backTo pos (starEach [e] X.env) = (false, eval e X.env) :: backTo pos (starEach [] X.env) := by rfl) (hpl : (backTo pos (starEach [e] X.env)).any (·.1) = false := by rfl) (hall : (backToKw pos (keywordEach [⟨some "start", .Constant (.int k) j p2, p3⟩] X.env)).all (·.1.isSome) = true := by rfl)
    (hno : (backToKw pos (keywordEach [⟨some "start", .Constant (.int k) j p2, p3⟩] X.env)).any (·.1.isNone) = false := by rfl) (hks : (backToKw pos (keywordEach [⟨some "start", .Constant (.int k) j p2, p3⟩] X.env)).filterMap (·.1) = [Str.ofString "start"] := by rfl) :
    PI X (.Tuple elts kk tpos) (.Call (.Name "enumerate" p) [e] [⟨some "start", .Constant (.int k) j p2, p3⟩] pos) (iEnF K k ta) := by
  subst hK
  refine ⟨fun pins s σ H R I h => wpAny_Call_Name_kw (ld_blt I hg hm boot_enumerate (callWith_typeKw (thn (ha.run pos pins s σ H _ I h) fun us s1 ⟨vs, H1, I1, r1, a, xs, ex, hq, q⟩ => ?_) he hpl hall hno))⟩
  subst ex
  obtain rfl := Vals.ref1 r1
  refine PyProof.Rows.kws_cons (thn ((pe_int (X := X) (i := k) (j := j) (pos := p2)).run pins s1 σ H1 (fun v H' => v = .int k ∧ H' = H1) I1 ⟨rfl, rfl⟩) fun v s2 ⟨x, H2, I2, rv, e1, e2⟩ => PyProof.Rows.kws_nil ?_)
  subst e1 e2
  obtain ⟨t, rfl⟩ := rv
  obtain ⟨its, rvs, p', hz⟩ := I2.list hq
  have hlt : a < s2.heap.objs.size := let ⟨_, q, _⟩ := p'.isList; Heap.lt_size q
  rw [hks]
  refine enum_begins_start (begins_list a its.toArray) p'.isList h0 h1 fun h' he hit hsz hk => wpAny_pyIter_enum he ?_
  have I3 : Inv X pins σ H2 { s2 with heap := h' } := I2.kept (t' := s2.toks) hk
  have two : ∀ b, b ∈ [s2.heap.objs.size + 1, s2.heap.objs.size] → s2.heap.objs.size ≤ b := fun b hb => (List.mem_cons.mp hb).elim (fun z => by rw [z]; exact Nat.le_succ _) fun z => by rw [List.mem_singleton.mp z]; exact Nat.le_refl _
  exact ⟨s2.heap.objs.size + 1, [s2.heap.objs.size + 1, s2.heap.objs.size], _, _, H2, rfl, I3, turn_enF k a (s2.heap.objs.size + 1) s2.heap.objs.size (Nat.ne_of_gt (Nat.lt_succ_of_lt hlt)) (Nat.ne_of_lt hlt), ⟨⟨.none, by rw [show k + ((0 : Nat) : Int) = k by omega]; exact he⟩, ⟨_, hit, rfl, rfl⟩, Nat.succ_ne_self _⟩, fun b hb => I2.fpOk (two b hb) (I2.hok.fresh (two b hb)), q⟩
theorem walk_enF {K : PySem.W.Frag} {a : Addr} {k : Int} {xs : List V} : Walk (Itef K a k) xs.length (fun H => SqL K H a xs) (YPair (fun i => some (.int (k + (i : Nat)))) (fun i => xs[i]?)) := by
  refine ⟨fun i _ hi q => ⟨xs, q, hi⟩, fun _ q => ⟨xs, q, rfl⟩, fun i H v H' _ q ⟨T, x, e1, e2, e3, e4⟩ => ⟨T, .int (k + (i : Nat)), x, e1, e2, e3, rfl, e4 xs q⟩⟩
end L2

set_option Elab.async false
set_option linter.all false
set_option maxRecDepth 100000
set_option maxHeartbeats 4000000
/-! one reading for both kinds of promise: list(f(..)) wants a deal that keeps the heap as it is -/
namespace L2
open PySem PySem.Spec PyProof.Rows GenW
/-- a deal with a consumer that leaves the heap as it is -/
def Deal.Still (Dl : Deal) : Prop := ∀ ys x H, Dl.yd ys x H → Dl.kp ys x H H
section
variable {X : Cx} {Dl : Deal} {e : Expr} {yp pos : Pos} {te : TE}
theorem gs_yield3 (hD : Dl.Still) (he : PE X e te) (hco : X.env.scope.isCoroutine = false := by rfl) (hi : interactive X.env = false := by rfl) : GS X (.Expr (.Yield (some e) yp) pos) (tYield3 Dl te) := by
  have hw : PE X e (fun σ H Q => ∃ Q0, te σ H Q0 ∧ ∀ x H1, Q0 x H1 → Q x H1) := ⟨fun pins s σ H Q I ⟨Q0, h0, hq⟩ => thn (he.run pins s σ H Q0 I h0) fun u s' ⟨x, H', I', r, q⟩ => ⟨x, H', I', r, hq x H' q⟩⟩
  refine ⟨fun A S ip R n ys s₀ c fs K J gd lv s σ H D g hn k hI ht => (gs_yield hw hco hi).run A S ip R n ys s₀ c fs K J gd lv s σ H D g hn k hI ⟨ht.1, _, ht.2, fun x H1 q => q.2 H1 (hD ys x H1 q.1)⟩⟩
end
end L2

set_option Elab.async false
set_option linter.all false
set_option maxRecDepth 100000
set_option maxHeartbeats 4000000
/-! rules with K named, for what stands within a generator whose contexts change -/
namespace L2
open PySem PySem.Spec PyProof.Rows GenW
section
variable {X : Cx} {K : PySem.W.Frag} {o e : Expr} {es : List Expr} {to te : TE} {t : TA} {name : Str} {apos cpos pos p : Pos} {T id : String} {r : V → List V → Hp → VK → Prop}
theorem pe_bm0N (hK : X.K = K) (pa : PlainAttrs T) (slot : Slot T name id) (hty : typeOf (.builtin id) = pure (.type "method_descriptor")) (hm : MtR X id r) (ho : PE X o to) (hbase : attributeBase o name X.env (eval o X.env) = eval o X.env := by rfl)
    (hline : (apos.endLine == cpos.line) = true := by rfl) : PE X (.Call (.Attribute o name apos) [] [] cpos) (tBM0 K T r to) := by subst hK; exact pe_bm0 pa slot hty hm ho hbase hline
theorem pe_bmN (hK : X.K = K) (pa : PlainAttrs T) (slot : Slot T name id) (hty : typeOf (.builtin id) = pure (.type "method_descriptor")) (hm : MtR X id r) (ho : PE X o to) (ha : PA X (e :: es) t) (hbase : attributeBase o name X.env (eval o X.env) = eval o X.env := by rfl)
    (hfew : ((backTo cpos (starEach (e :: es) X.env)).all (fun x => !x.1) && (backToKw cpos (keywordEach [] X.env)).all (fun x => x.1.isSome) && decide ((e :: es).length + ([] : List Keyword).length + (if ([] : List Keyword).isEmpty then 0 else 1) < 30)) = true := by rfl)
    (hline : (apos.endLine == cpos.line) = true := by rfl) (hs : starEach (e :: es) X.env = (false, eval e X.env) :: starEach es X.env := by rfl) (hplain : (backTo cpos (starEach es X.env)).any (·.1) = false := by rfl) :
    PE X (.Call (.Attribute o name apos) (e :: es) [] cpos) (tBM K T r to t) := by subst hK; exact pe_bm pa slot hty hm ho ha hbase hfew hline hs hplain
theorem pg_tupN (hK : X.K = K) {es : List Expr} {k : Nat} {t : TGs} {n : Nat} (hc : X.calm = true) (h : PGs X es t) (hn : (assignEach es X.env).length = n := by rfl) (hst : (assignEach es X.env).findIdx? (·.1) = none := by rfl) :
    PG X (.Tuple es k pos) (gTup K n t) := by subst hK; exact pg_tup hc h hn hst
theorem pa_starN (hK : X.K = K) (he : PE X e te) (hr : PA X es t) (hs : starEach (.Starred e p :: es) X.env = (true, eval e X.env) :: starEach es X.env := by rfl) : PA X (.Starred e p :: es) (StX.tStar K te t) := by subst hK; exact StX.pa_star he hr hs
theorem pi_enSqN (hK : X.K = K) {ta : TA} {tpos : Pos} {elts : List Expr} {kk : Nat} (hg : Gl X "enumerate") (hm : X.mg "enumerate" = none) (ha : PA X [e] ta) (hs : starEach [e] X.env = [(false, eval e X.env)] := by rfl) :
    PI X (.Tuple elts kk tpos) (.Call (.Name "enumerate" p) [e] [] pos) (iEnSq K ta) := by subst hK; exact pi_enSq hg hm ha hs
end
end L2

set_option Elab.async false
set_option linter.all false
set_option maxRecDepth 100000
set_option maxHeartbeats 4000000
/-! a generator's for over anything that walks -/
namespace L2
open PySem PySem.Spec PyProof.Rows GenW
theorem gfor_it {J : It} {n : Nat} {G : Hp → Prop} {Y : Nat → Hp → V → Hp → Prop} (w : Walk J n G Y) {g : TG} {tb : TGn} {D : GEnds} {ys : List V} {σ : St} {H : Hp} (Pv : Nat → List V → St → Hp → Prop) (h0 : Pv 0 ys σ H) (hG : ∀ i ys σ H, i ≤ n → Pv i ys σ H → G H)
    (hs : ∀ i x ys σ H H', i < n → Pv i ys σ H → Y i H x H' → g x σ H' fun σ2 H2 => tb { D with nx := Pv (i + 1), ct := Pv (i + 1), bk := D.nx } ys σ2 H2) (hd : ∀ ys σ H, Pv n ys σ H → D.nx ys σ H) :
    ∃ W : Nat → Nat → List V → St → Hp → Prop, (∃ m, W 0 m ys σ H) ∧ ∀ i m ys σ H, W i m ys σ H →
      (J.stop i H ∧ D.nx ys σ H) ∨ (J.go i H ∧ ∃ N : List V → St → Hp → Prop, (∀ ys' σ' H', N ys' σ' H' → ∃ m', m' < m ∧ W (i + 1) m' ys' σ' H') ∧ ∀ x H', J.yld i H x H' → g x σ H' fun σ2 H2 => tb { D with nx := N, ct := N, bk := D.nx } ys σ2 H2) := by
  refine ⟨fun i m ys σ H => m = n - i ∧ i ≤ n ∧ Pv i ys σ H, ⟨n - 0, rfl, Nat.zero_le _, h0⟩, ?_⟩
  rintro i m ys σ H ⟨rfl, hi, pv⟩
  by_cases hlt : i < n
  · exact .inr ⟨w.goes i H hlt (hG i ys σ H hi pv), Pv (i + 1), fun ys' σ' H' q => ⟨n - (i + 1), by omega, rfl, hlt, q⟩, fun x H' hy => hs i x ys σ H H' hlt pv (w.yields i H x H' hlt (hG i ys σ H hi pv) hy)⟩
  · obtain rfl : i = n := by omega
    exact .inl ⟨w.stops H (hG i ys σ H hi pv), hd ys σ H pv⟩
end L2

set_option Elab.async false
set_option linter.all false
set_option maxRecDepth 100000
set_option maxHeartbeats 4000000
/-! [x for x in f(..)]: a comprehension over a generator def's call -/
namespace L2
open PySem PySem.Spec PyProof.Rows GenW
section
variable {P : Program} {w : World}
/-- a list of ours is tracked -/
theorem hok_track {H' : Hp} {h : Heap} {S : Addr} {its : List Value} {c : Nat} {out : List V} (hok : HOk P w H' h) (hn : H' S = none) (hlen : out.length ≤ sizeLine) (e : h.get? S = some { cls := .type "list", data := .seq its.toArray c }) (r : Vals out its) : HOk P w (upd H' S (.lst out)) h := fun b u q => by
  by_cases hb : b = S
  · subst hb
    rw [upd_same] at q
    cases q
    exact ⟨hlen, its, c, r, e⟩
  · rw [upd_ne hb] at q
    exact (hok b u q).stay (fun _ _ _ z => z) (fun d z => by rw [upd_ne (ne_of_none z hn)]; exact z) fun d xs z => by rw [upd_ne (ne_of_none z hn)]; exact z
end
section
variable {X : Cx} {pins : List (Addr × Obj)} {σ : St} {H : Hp} {s : Shared} {n₀ : Nat}
theorem LowX.apart (L : LowX X pins n₀) {b : Addr} (hn : n₀ ≤ b) : (b ∈ X.ex ∨ X.s_0.heap.objs.size ≤ b) ∧ b ≠ X.env.locals ∧ (∀ x c, X.env.cells.lookup x = some c → c ≠ b) ∧ ∀ p ∈ X.pn ++ pins, p.1 ≠ b := by
  refine ⟨.inr (Nat.le_trans L.s0 hn), fun z => ?_, fun x c e z => ?_, fun p hp z => ?_⟩
  · rw [z] at hn; exact absurd (Nat.lt_of_lt_of_le L.loc hn) (Nat.lt_irrefl _)
  · rw [← z] at hn; exact absurd (Nat.lt_of_lt_of_le (L.cell x c e) hn) (Nat.lt_irrefl _)
  · rw [← z] at hn; exact absurd (Nat.lt_of_lt_of_le (L.pin p hp) hn) (Nat.lt_irrefl _)
theorem Inv.track {S : Addr} {its : List Value} {c : Nat} {out : List V} (I : Inv X pins σ H s) (L : LowX X pins n₀) (hS : n₀ ≤ S) (hn : H S = none) (hlen : out.length ≤ sizeLine) (e : s.heap.get? S = some { cls := .type "list", data := .seq its.toArray c }) (r : Vals out its) : Inv X pins σ (upd H S (.lst out)) s := by
  refine I.call' (ch := [S]) rfl ⟨fun b o q _ _ _ => q, fun b o q _ _ _ => ⟨o.slots, q⟩, fun b o q z hc => ?_, fun b o q _ => ⟨o, q⟩, fun b xs q => ?_, fun b o u q => ?_, fun b ps q => ?_⟩ (hok_track I.hok hn hlen e r) I.bare fun b hb => ?_
  · rw [upd_ne fun y => hc (by rw [y]; exact List.mem_singleton.mpr rfl)]; exact z
  · rw [upd_ne (ne_of_none q hn)]; exact q
  · rw [upd_ne (ne_of_none q hn)]; exact q
  · exact ⟨#[], by rw [upd_ne (ne_of_none q hn), q]; simp⟩
  · rw [List.mem_singleton.mp hb]; exact L.apart hS
/-- only untracked places from n₀ on have changed -/
theorem Inv.far {s' : Shared} {ch : List Addr} (I : Inv X pins σ H s) (L : LowX X pins n₀) (os : s'.os = s.os) (hb : AllBare s'.gens) (hch : ∀ b ∈ ch, n₀ ≤ b ∧ H b = none) (k : ∀ b o, b ∉ ch → s.heap.get? b = some o → s'.heap.get? b = some o) : Inv X pins σ H s' := by
  refine I.call' (ch := ch) os ⟨fun b o q _ _ hc => k b o hc q, fun b o q _ _ hc => ⟨o.slots, k b o hc q⟩, fun b o q z hc => z, fun b o q hc => ⟨o, k b o hc q⟩, fun b xs q => q, fun b o u q => q, fun b ps q => ⟨#[], by rw [q]; simp⟩⟩ (fun b u q => ?_) hb fun b hb => L.apart (hch b hb).1
  refine (I.hok b u q).stay (fun c v hc z => k c v (fun y => ?_) z) (fun _ z => z) fun _ _ z => z
  have hz := (hch c y).2
  rcases hc with hc | hc
  · rw [hc, q] at hz; cases hz
  · rw [hz] at hc; cases hc
end
/-- the items stand in the new list, the heap is the generator's own -/
def tLcG (sp : SpG3) (ta : TA) : TE := fun σ H Q => ta σ H fun vs H1 => ∀ cs ad, sp vs H1 ⟨cs, fun _ _ _ => True, fun _ _ H2 H3 => H3 = H2, ad⟩ (fun ys H' => ∀ D, H1 D = none → H' D = none → Q (.ref D) (upd H' D (.lst ys))) (fun _ _ _ => False)
section
variable {X : Cx} {k : Nat} {ps : List Str} {sp : SpG3} {x y : Str} {p p1 p2 pos pos2 pos' : Pos} {e : Expr} {es : List Expr} {ta : TA} {scope : Scope} {use : Option (Value → Sem Unit)} {Qf : Value → Shared → Prop} {pins : List (Addr × Obj)} {s : Shared} {σ : St} {H : Hp} {Q : VK}
theorem lcG_core (hc : X.calm = true) (I : Inv X pins σ H s) (O : OwnG3 X.prog X.w X.K X.mg X.base x k ps sp) (room : Room (k + 1) X.A) (ha : PA X (e :: es) ta) (hkind : scope.kind = .function) (hfr : ∀ y ∈ scope.names, y.2 = .free → X.env.scope.names.lookup y.1 = some .cell ∨ X.env.scope.names.lookup y.1 = some .free)
    (hnm : ∀ x ∈ scope.names, x.2 = .local → scope.names.lookup x.1 = some .local) (hy : scope.names.lookup y = some .local) (hgl : Gl X x) (hdb : (x == ("__debug__" : Str)) = false) (hdy : (y == ("__debug__" : Str)) = false)
    (he : starEach (e :: es) X.env = (false, eval e X.env) :: starEach es X.env) (hpl : (backTo pos2 (starEach es X.env)).any (·.1) = false) (hs : ∀ z, foldedSetIterable (.Call (.Name x p) (e :: es) [] pos2) X.env z = pure z)
    (h : tLcG sp ta σ H Q)
    (hRR : ∀ D C s' m H', Inv X pins σ H' s' → Q (.ref D) H' → s'.heap.Ns C m → FpOk X pins H' C → compPost (model X.prog X.w) X.A X.xe use Qf (.ref D) C (.ok .next) s') :
    wpAny (model X.prog X.w) X.A (comprehension (.ListComp (.Name y p1) [⟨.Name y p2, .Call (.Name x p) (e :: es) [] pos2, [], 0⟩] scope pos) scope X.env pos' (newList []) false (eval (.Call (.Name x p) (e :: es) [] pos2) X.env) use) Qf X.xe s := by
  have hfree : ∀ y ∈ scope.names, y.2 = .free → ∃ c, X.env.cells.lookup y.1 = some c := fun y hy e => I.ok.has _ (hfr y hy e)
  obtain ⟨f, fd, G, hm, hk, hbd⟩ := O.ex
  refine wpAny_comprehension_free (use := use) rfl hs (closure_ok hfree) hkind hnm
    (wpAny_Call_Name_kw (ld_glob I hgl hm (PySem.W.callWith_K (h₀ := X.base) I.ok.mod.kin hk (thn (ha.run pos2 pins s σ H _ I h) fun us s1 ⟨vs, H1, I1, r, q⟩ => ⟨I1.kIn, ?_⟩) he hpl) hdb))
  have hl2 : us.length = ps.length := by rw [← r.length]; exact G.len _ _ _ _ _ (q (fun _ _ _ => True) [])
  have hbs := hbd s1 us I1.kIn (by rw [List.append_nil]; exact hl2)
  rw [List.append_nil] at hbs
  obtain ⟨QQ, hQQ⟩ : ∃ QQ : List V → Hp → Prop, QQ = fun (ys : List V) (H' : Hp) => ∀ D, H1 D = none → H' D = none → Q (.ref D) (upd H' D (.lst ys)) := ⟨_, rfl⟩
  have q2 : ∀ cs ad, sp vs H1 ⟨cs, fun _ _ _ => True, fun _ _ H2 H3 => H3 = H2, ad⟩ QQ (fun _ _ _ => False) := by rw [hQQ]; exact q
  refine wpAny_call (codeAny_mono (G.run X.A X.stack s1 H1 ⟨us, []⟩ us vs (fun Dl' Q' => ∃ cs ad, Dl' = ⟨cs, fun _ _ _ => True, fun _ _ H2 H3 => H3 = H2, ad⟩ ∧ Q' = QQ) (fun _ _ _ => False) ⟨_, _, fun _ _ _ => True, [], rfl, rfl⟩ (room.mono (Nat.le_succ k)) I1.env0 hbs r (fun Dl' Q' z => by obtain ⟨cs, ad, z1, z2⟩ := z; rw [z1, z2]; exact q2 cs ad)) fun r s2 hq => ?_)
  cases r with
  | error _ => exact hq.elim
  | ok fl =>
  cases fl with
  | next => exact hq.elim
  | brk => exact hq.elim
  | cont => exact hq.elim
  | ret u =>
  obtain ⟨a, g, c, go, rfl, ha1, ha2, hgo, isg, hgs, hos, hba, hkp, wake⟩ := hq
  have I2 : Inv X pins σ H1 s2 := I1.call' (ch := []) hos (Un.kept hkp) (I1.hok.kept hkp) hba fun _ z => nomatch z
  refine wpAny_pyIter_gen (isg _ hgo) ?_
  have L : LowX X pins s1.heap.objs.size := I1.low
  have hfrF : ∀ b ∈ frs X.stack, b < s1.heap.objs.size := fun b hb => by
    obtain ⟨_, o, ho, _⟩ := I1.stack.mem hb
    exact Heap.lt_size ho
  have hgl2 : g < s2.gens.size := (Array.getElem?_eq_some_iff.mp hgs).1
  refine wpAny_newObj_type (newEnv_comp ?_) (by show 0 ≤ sizeLine; decide)
  obtain ⟨D, hD⟩ : ∃ D, s2.heap.objs.size = D := ⟨_, rfl⟩
  obtain ⟨C, hC⟩ : ∃ C, s2.heap.objs.size + 1 = C := ⟨_, rfl⟩
  have hDC : D ≠ C := by rw [← hD, ← hC]; exact Nat.ne_of_lt (Nat.lt_succ_self _)
  have nDlt : s1.heap.objs.size < D := by rw [← hD]; exact Nat.lt_of_le_of_lt ha1 ha2
  have nD : s1.heap.objs.size ≤ D := Nat.le_of_lt nDlt
  have nClt : s1.heap.objs.size < C := by rw [← hC]; exact Nat.lt_succ_of_lt (Nat.lt_of_le_of_lt ha1 ha2)
  have nC : s1.heap.objs.size ≤ C := Nat.le_of_lt nClt
  have hCs : (s2.heap.push { cls := .type "list", data := .seq ([] : List Value).toArray }).objs.size = C := by rw [Heap.size_push]; exact hC
  generalize hce : compEnvC scope (cellsFrom ((s2.heap.push { cls := .type "list", data := .seq ([] : List Value).toArray }).objs.size + 1) scope.names (cloFrom X.env.cells scope.names [])) (s2.heap.push { cls := .type "list", data := .seq ([] : List Value).toArray }).objs.size X.env = ce
  rw [hCs] at hce
  have cL : ce.locals = C := by subst hce; rfl
  have cK : ce.scope.kind = .function := by subst hce; exact hkind
  have cY : ce.kindOf y = some .local := by subst hce; exact lookup_relabel_local hy
  have cP : (ce.scope.kind == .class || (ce.scope.kind == .module && ce.locals != ce.globals)) = false := by rw [cK]; rfl
  show codeAny (model X.prog X.w) X.A (.compStart (.ListComp (.Name y p1) [⟨.Name y p2, .Call (.Name x p) (e :: es) [] pos2, [], 0⟩] scope pos) 0 (.ref a) (.ref s2.heap.objs.size) (compEnvC scope (cellsFrom ((s2.heap.push { cls := .type "list", data := .seq ([] : List Value).toArray }).objs.size + 1) scope.names (cloFrom X.env.cells scope.names [])) (s2.heap.push { cls := .type "list", data := .seq ([] : List Value).toArray }).objs.size X.env))
    (compPost (model X.prog X.w) X.A X.xe use Qf (.ref s2.heap.objs.size) (s2.heap.push { cls := .type "list", data := .seq ([] : List Value).toArray }).objs.size) { s2 with heap := pushCells ((s2.heap.push { cls := .type "list", data := .seq ([] : List Value).toArray }).push { cls := .type "dict", data := .dict #[] }) scope.names }
  rw [hCs, hD, hce]
  have nsC4 : (pushCells ((s2.heap.push { cls := .type "list", data := .seq ([] : List Value).toArray }).push { cls := .type "dict", data := .dict #[] }) scope.names).Ns C fun _ => none := by
    rw [← hCs]
    exact Heap.Ns.keeps (Heap.Ns.new ..) fun b o e => pushCells_keeps _ _ _ _ e
  have lD4 : (pushCells ((s2.heap.push { cls := .type "list", data := .seq ([] : List Value).toArray }).push { cls := .type "dict", data := .dict #[] }) scope.names).get? D = some { cls := .type "list", data := .seq ([] : List Value).toArray 0 } := by
    refine pushCells_keeps _ _ _ _ (Heap.get?_push_of_some _ ?_)
    rw [← hD]
    exact Heap.get?_push_size _ rfl
  have kp4 : ∀ b o, s2.heap.get? b = some o → (pushCells ((s2.heap.push { cls := .type "list", data := .seq ([] : List Value).toArray }).push { cls := .type "dict", data := .dict #[] }) scope.names).get? b = some o := fun b o e => pushCells_keeps _ _ _ _ (Heap.get?_push_of_some _ (Heap.get?_push_of_some _ e))
  obtain ⟨s4, hs4⟩ : ∃ s4 : Shared, s4 = { s2 with heap := pushCells ((s2.heap.push { cls := .type "list", data := .seq ([] : List Value).toArray }).push { cls := .type "dict", data := .dict #[] }) scope.names } := ⟨_, rfl⟩
  rw [← hs4]
  have nsC : s4.heap.Ns C fun _ => none := by rw [hs4]; exact nsC4
  have lD : s4.heap.get? D = some { cls := .type "list", data := .seq ([] : List Value).toArray 0 } := by rw [hs4]; exact lD4
  have kp : ∀ b o, s2.heap.get? b = some o → s4.heap.get? b = some o := by rw [hs4]; exact kp4
  have os4 : s4.os = s2.os := by rw [hs4]
  have gn4 : s4.gens = s2.gens := by rw [hs4]
  clear hs4 kp4 lD4 nsC4
  have hba4 : AllBare s4.gens := by rw [gn4]; exact hba
  have I4 : Inv X pins σ H1 s4 := I2.call' (ch := []) os4 (Un.kept kp) (I2.hok.kept kp) hba4 fun _ z => nomatch z
  have hCD : ∀ {b : Addr}, b ∈ [C, D] → b = C ∨ b = D := fun hb => by simpa using hb
  -- the deal
  generalize hDl : (⟨fun ys HE sE => Inv X pins σ HE sE ∧ (∃ m, sE.heap.Ns C m) ∧ ∃ its n, sE.heap.get? D = some { cls := .type "list", data := .seq (its : List Value).toArray n } ∧ Vals ys its ∧ ys.length ≤ sizeLine, fun _ _ _ => True, fun _ _ H2 H3 => H3 = H2, [C, D]⟩ : Deal) = Dl
  have hA : ∃ cs ad, Dl = ⟨cs, fun _ _ _ => True, fun _ _ H2 H3 => H3 = H2, ad⟩ ∧ QQ = QQ := ⟨_, _, hDl.symm, rfl⟩
  have adAt : ∀ {HE : Hp} {sE : Shared} {m : Str → Option Value} {its : List Value} {n : Nat}, sE.heap.Ns C m → sE.heap.get? D = some { cls := .type "list", data := .seq its.toArray n } → ∀ b ∈ Dl.ad, ∃ o, sE.heap.get? b = some o ∧ ∀ v, o.data ≠ .cell v := fun {HE sE m its n} hn hl b hb => by
    subst hDl
    rcases hCD hb with rfl | rfl
    · obtain ⟨o, es', ep, ho, hd, _⟩ := hn
      exact ⟨o, ho, fun v z => by rw [hd] at z; cases z⟩
    · exact ⟨_, hl, fun v z => by cases z⟩
  have mkWk : ∀ {H' s' m its n}, Inv X pins σ H' s' → s1.heap.objs.size ≤ s'.heap.objs.size → H' C = none → H' D = none → s'.heap.Ns C m → s'.heap.get? D = some { cls := .type "list", data := .seq (its : List Value).toArray n } → Wk X.prog X.w X.base X.stack s1.heap.objs.size Dl.ad H' s' := fun {H' s' m its n} I' hz hc' hd' hn hl =>
    ⟨I'.bare, I'.bs, I'.stack, fun b hb => ⟨hfrF b hb, I'.stkFree b hb⟩, I'.hok, hz, fun b hb => by
      have q := adAt (HE := H') hn hl b hb
      subst hDl
      rcases hCD hb with rfl | rfl
      · exact ⟨nClt, hc', fun z => absurd (hfrF _ z) (Nat.not_lt.mpr nC), q⟩
      · exact ⟨nDlt, hd', fun z => absurd (hfrF _ z) (Nat.not_lt.mpr nD), q⟩⟩
  have go4 : s4.heap.get? a = some go := kp _ _ hgo
  have loop : codeAny (model X.prog X.w) X.A (.compLoop (.ListComp (.Name y p1) [⟨.Name y p2, .Call (.Name x p) (e :: es) [] pos2, [], 0⟩] scope pos) 0 (.ref a) (.ref D) ce) (compPost (model X.prog X.w) X.A X.xe use Qf (.ref D) C) s4 := by
    obtain ⟨Pd, hPd⟩ : ∃ Pd : Nat → Shared → Prop, Pd = fun n s' => ∃ gs H', s'.gens[g]? = some gs ∧ gs.Goes (model X.prog X.w) X.A.in1 (End3 X.prog X.w X.stack s1.heap.objs.size Dl QQ (fun _ _ _ => False) a g) (GY3 X.prog X.w X.base X.stack [(a, go)] s1.heap.objs.size Dl) n (.send .none) (s'.setGen g .running) ∧ s'.heap.get? a = some go ∧ Inv X pins σ H' s' := ⟨_, rfl⟩
    refine compLoop_any Pd ?_ sizeLine ?_
    · intro n s3 hh
      rw [hPd] at hh
      obtain ⟨gs, H3, hgs3, hgoes, hgo3, I3⟩ := hh
      have hgl3 : g < s3.gens.size := (Array.getElem?_eq_some_iff.mp hgs3).1
      have hcd : ∃ nm qn, go.cls = .type "generator" ∧ go.data = .fields #[.int g 0, nm, qn] := by
        obtain ⟨o, nm, qn, ho, hc, hd, _⟩ := isg _ hgo
        rw [hgo] at ho; cases ho
        exact ⟨nm, qn, hc, hd⟩
      obtain ⟨nm, qn, hgc, hgd⟩ := hcd
      refine wpAny_gsz (n := g + 1) hgl3 (next_genG (A := X.A) (I3.ok.hd hc) I3.nolimit room.depth (isg _ hgo3) hgs3 hgoes (fun v s5 gs' hbare hv => ?_) (fun s5 hf h' hk' => ?_) fun er s5 her => ?_)
      · obtain ⟨ys, x1, HE, H4, mine, hn, rv, hcs, hz, un, os5, ag5, hok5, hpn, hz5, hcp, yd, hmine, hmad, wakes⟩ := hv
        intro hsz
        have hcs2 : Inv X pins σ HE (s3.setGen g .running) ∧ (∃ m, (s3.setGen g .running).heap.Ns C m) ∧ ∃ its n, (s3.setGen g .running).heap.get? D = some { cls := .type "list", data := .seq (its : List Value).toArray n } ∧ Vals ys its ∧ ys.length ≤ sizeLine := by subst hDl; exact hcs
        obtain ⟨IE, ⟨m, hnC⟩, its, nn, hlD, hvs, hlen0⟩ := hcs2
        have hsz5 : g < s5.gens.size := by
          have z : (s5.setGen g gs').gens.size = s5.gens.size := setGen_size _ _ _
          have z2 : g + 1 ≤ (s5.setGen g gs').gens.size := hsz
          omega
        have pin : ∀ b ∈ [C, D], ∀ o, (s3.setGen g .running).heap.get? b = some o → s5.heap.get? b = some o ∧ H4 b = none := fun b hb o eo => hcp (b, o) (by subst hDl; exact mem_pinsAt hb eo)
        have hnC5 : s5.heap.Ns C m := hnC.at' fun o eo => (pin C List.mem_cons_self o eo).1
        obtain ⟨hlD5, nD4⟩ := pin D (List.mem_cons_of_mem _ List.mem_cons_self) _ hlD
        have nC4 : H4 C = none := by
          obtain ⟨o, _, _, ho, _⟩ := hnC
          exact (pin C List.mem_cons_self o ho).2
        have I5 : Inv X pins σ H4 (s5.setGen g gs') := (IE.stretch L un hok5 os5 ag5).gensTo (allBare_setGen ag5 hbare)
        have hgo5 : s5.heap.get? a = some go := (hpn _ (List.mem_singleton.mpr rfl)).1
        refine go_of (s := s5.setGen g gs') hgo5 hgc hgd (by decide) ?_
        refine wpAny_assign_Name (wpAny_storeName_local cY (m := m) (by rw [cL]; exact hnC5) (fun h6 hn6 hb6 => ?_) cP)
        rw [cL] at hn6 hb6
        refine wpAny_tests_nil ?_
        rw [if_pos rfl]
        refine wpAny_Name (wpAny_loadName_local cK cY (m := fun z => if z = y then some v else m z) (by rw [cL]; exact hn6) (if_pos rfl) ?_) hdy
        have hlD6 : h6.get? D = some { cls := .type "list", data := .seq its.toArray nn } := (hb6.2 D hDC).trans hlD5
        have hlen := hvs.length
        refine append_at hlD6 (fun h7 hb7 hl7 => ?_) (by rw [List.size_toArray]; omega)
        have keep : ∀ b o, b ∉ [C, D] → s5.heap.get? b = some o → h7.get? b = some o := fun b o hb eo => by
          simp only [List.mem_cons, List.not_mem_nil, or_false, not_or] at hb
          exact (hb7.2 b hb.2).trans ((hb6.2 b hb.1).trans eo)
        have I7 : Inv X pins σ H4 { s5.setGen g gs' with heap := h7, toks := s5.toks + 1 } := I5.far L rfl I5.bare (ch := [C, D]) (fun b hb => by rcases hCD hb with rfl | rfl; exact ⟨nC, nC4⟩; exact ⟨nD, nD4⟩) keep
        have haC : a ∉ [C, D] := fun hb => by
          rcases hCD hb with z | z
          · rw [z, ← hC] at ha2; exact absurd (Nat.lt_trans ha2 (Nat.lt_succ_self _)) (Nat.lt_irrefl _)
          · rw [z, ← hD] at ha2; exact absurd ha2 (Nat.lt_irrefl _)
        have hnC7 : h7.Ns C fun z => if z = y then some v else m z := hn6.sameBut hb7 (Ne.symm hDC)
        obtain ⟨s7, hs7⟩ : ∃ s7 : Shared, s7 = { s5.setGen g gs' with heap := h7, toks := s5.toks + 1 } := ⟨_, rfl⟩
        have hp7 : s7.heap = h7 := by rw [hs7]
        have gn7 : s7.gens = (s5.setGen g gs').gens := by rw [hs7]
        rw [← hs7] at I7
        have I7r : Inv X pins σ H4 (s7.setGen g .running) := I7.gensTo (allBare_setGen I7.bare rfl)
        have hgs7 : s7.gens[g]? = some gs' := by rw [gn7]; exact setGen_at hsz5
        have hn7 : (s7.setGen g .running).heap.Ns C fun z => if z = y then some v else m z := by show s7.heap.Ns C _; rw [hp7]; exact hnC7
        have hl7' : (s7.setGen g .running).heap.get? D = some { cls := .type "list", data := .seq (its ++ [v]).toArray (nn + 1) } := by
          show s7.heap.get? D = _
          rw [hp7, hl7]
          simp
        have hz7 : s1.heap.objs.size ≤ (s7.setGen g .running).heap.objs.size := Nat.le_trans nC (Nat.le_of_lt hn7.lt)
        have wk := wakes H4 (s7.setGen g .running) (mkWk I7r hz7 nC4 nD4 hn7 hl7') (by subst hDl; exact ⟨I7r, ⟨_, hn7⟩, _, _, hl7', hvs.append (.cons rv .nil), by rw [List.length_append, List.length_singleton]; omega⟩) (fun b mb o eb => ⟨(by show s7.heap.get? b = _; rw [hp7]; exact keep b o (fun z => hmad b mb (by subst hDl; exact z)) eb), (hmine b mb).1⟩) (by subst hDl; rfl)
        cases n with
        | zero => exact False.elim wk
        | succ q =>
          have fin : Pd q s7 := by
            rw [hPd]
            exact ⟨gs', H4, hgs7, wk, by rw [hp7]; exact keep a go haC hgo5, I7⟩
          rw [hs7] at fin
          exact ⟨q, Nat.lt_succ_self q, fin⟩
      · obtain ⟨ys, HE, H4, hcs, hz, os5, ag5, un, hok5, hcp, hQ⟩ := hf
        intro _
        have hcs2 : Inv X pins σ HE (s3.setGen g .running) ∧ (∃ m, (s3.setGen g .running).heap.Ns C m) ∧ ∃ its n, (s3.setGen g .running).heap.get? D = some { cls := .type "list", data := .seq (its : List Value).toArray n } ∧ Vals ys its ∧ ys.length ≤ sizeLine := by subst hDl; exact hcs
        obtain ⟨IE, ⟨m, hnC⟩, its, nn, hlD, hvs, hlen0⟩ := hcs2
        have pin : ∀ b ∈ [C, D], ∀ o, (s3.setGen g .running).heap.get? b = some o → s5.heap.get? b = some o ∧ H4 b = none := fun b hb o eo => hcp (b, o) (by subst hDl; exact mem_pinsAt hb eo)
        have hnC5 : s5.heap.Ns C m := hnC.at' fun o eo => (pin C List.mem_cons_self o eo).1
        obtain ⟨hlD5, nD4⟩ := pin D (List.mem_cons_of_mem _ List.mem_cons_self) _ hlD
        have nC4 : H4 C = none := by
          obtain ⟨o, _, _, ho, _⟩ := hnC
          exact (pin C List.mem_cons_self o ho).2
        have I5 : Inv X pins σ H4 (s5.setGen g .finished) := (IE.stretch L un hok5 os5 ag5).gensTo (allBare_setGen ag5 rfl)
        have I6 : Inv X pins σ H4 { s5.setGen g .finished with heap := h' } := I5.call' (ch := []) rfl (Un.kept hk') (I5.hok.kept hk') I5.bare fun _ z => nomatch z
        have I7 := I6.track L nD nD4 hlen0 (hk' _ _ hlD5) hvs
        refine hRR D C _ m _ I7 ?_ (hnC5.keeps hk') ?_
        · rw [hQQ] at hQ
          exact hQ D (I1.hok.fresh nD) nD4
        · obtain ⟨t1, t2, t3, t4⟩ := L.apart nC
          exact ⟨by rw [upd_ne (Ne.symm hDC)]; exact nC4, t2, fun z => I1.nofs nC z, t1, t3, t4⟩
      · obtain ⟨ys, HE, sE, hcs, hz, cx, hge⟩ := her
        obtain ⟨_, _, _, _, _, _, _, _, _, _, _, _, hE⟩ := cx
        exact hE.elim
    · rw [hPd]
      refine ⟨.fresh c, H1, by rw [gn4]; exact hgs, ⟨rfl, ?_⟩, go4, I4⟩
      refine wake X.A.in1 (s4.setGen g .running) Dl QQ hA room.in1 I1.ok.frames kp (os4.trans hos) (allBare_setGen hba4 rfl) (fun b hb => ?_) ?_
      · refine ⟨?_, adAt (HE := H1) (sE := s4.setGen g .running) nsC lD b hb⟩
        subst hDl
        rcases hCD hb with rfl | rfl
        · rw [← hC]; exact Nat.le_succ _
        · rw [← hD]; exact Nat.le_refl _
      · subst hDl
        exact ⟨I4.gensTo (allBare_setGen hba4 rfl), ⟨_, nsC⟩, [], 0, lD, .nil, Nat.zero_le _⟩
  exact codeAny_compStart_list loop (wpAny_pyIter_gen (isg _ go4) loop)
end
end L2

set_option Elab.async false
set_option linter.all false
set_option maxRecDepth 100000
set_option maxHeartbeats 4000000
namespace L2
open PySem PySem.Spec PyProof.Rows GenW
theorem pi_tupK {X : Cx} {K : PySem.W.Frag} (h : X.K = K) {tg l : Expr} {tl : TE} (hl : PE X l tl) : PI X tg l (iTup K tl) := by subst h; exact pi_tup hl
theorem cr_minDK {X : Cx} {K : PySem.W.Frag} (h : X.K = K) (hc : X.calm = true) (hu : X.A.units + 64 < cLine) : CallRK X (.builtin "min") [Str.ofString "default"] (rMxD K mnD) := by subst h; exact cr_minD hc hu
theorem cr_maxDK {X : Cx} {K : PySem.W.Frag} (h : X.K = K) (hc : X.calm = true) (hu : X.A.units + 64 < cLine) : CallRK X (.builtin "max") [Str.ofString "default"] (rMxD K mxD) := by subst h; exact cr_maxD hc hu
section
variable {X : Cx} {k : Nat} {ps : List Str} {sp : SpG3} {x y : Str} {p p1 p2 pos pos2 : Pos} {e : Expr} {es : List Expr} {ta : TA} {scope : Scope} {own : List (Str × Nat)}
/-- as a value -/
theorem pe_lcG (hc : X.calm = true) (O : OwnG3 X.prog X.w X.K X.mg X.base x k ps sp) (room : Room (k + 1) X.A) (ha : PA X (e :: es) ta) (ok : BlkOk X.N X.env.scope scope own) (hy : scope.names.lookup y = some .local) (hgl : Gl X x := by rfl) (hdb : (x == ("__debug__" : Str)) = false := by decide) (hdy : (y == ("__debug__" : Str)) = false := by decide)
    (he : starEach (e :: es) X.env = (false, eval e X.env) :: starEach es X.env := by rfl) (hpl : (backTo pos2 (starEach es X.env)).any (·.1) = false := by rfl) (hs : ∀ z, foldedSetIterable (.Call (.Name x p) (e :: es) [] pos2) X.env z = pure z := by intro _; rfl) :
    PE X (.ListComp (.Name y p1) [⟨.Name y p2, .Call (.Name x p) (e :: es) [] pos2, [], 0⟩] scope pos) (tLcG sp ta) := by
  refine ⟨fun pins s σ H Q I h => ?_⟩
  rw [eval_ListComp]
  refine lcG_core hc I O room ha ok.kind ok.free (fun y hy e => by rw [ok.uniq y hy, e]) hy hgl hdb hdy he hpl hs h fun D C s' m H' I' q hn f => ⟨m, hn, fun h'' sb => ?_⟩
  obtain ⟨f0, f1, f2, f3, f4, f5⟩ := f
  exact ⟨.ref D, H', I'.turned (t' := s'.toks) (fun b o hb e => (sb.2 b hb).trans e) f0 f1 f3 f4 f5, rfl, q⟩
/-- name = [..] on one line, the name a local -/
theorem ps_setLcG {i : Nat} {n : Str} {py spos : Pos} (hc : X.calm = true) (hN : X.N.Nodup) (hn : X.N[i]? = some n) (hnl : X.env.scope.names.lookup n = some .local) (hsw : swapsWith (.ListComp (.Name y p1) [⟨.Name y p2, .Call (.Name x p) (e :: es) [] pos2, [], 0⟩] scope pos) (some (.Name n py)) spos.line X.env = pure true)
    (O : OwnG3 X.prog X.w X.K X.mg X.base x k ps sp) (room : Room (k + 1) X.A) (ha : PA X (e :: es) ta) (ok : BlkOk X.N X.env.scope scope own) (hy : scope.names.lookup y = some .local) (hgl : Gl X x := by rfl) (hdb : (x == ("__debug__" : Str)) = false := by decide) (hdy : (y == ("__debug__" : Str)) = false := by decide)
    (he : starEach (e :: es) X.env = (false, eval e X.env) :: starEach es X.env := by rfl) (hpl : (backTo pos2 (starEach es X.env)).any (·.1) = false := by rfl) (hs : ∀ z, foldedSetIterable (.Call (.Name x p) (e :: es) [] pos2) X.env z = pure z := by intro _; rfl) :
    PS X (.Assign [.Name n py] (.ListComp (.Name y p1) [⟨.Name y p2, .Call (.Name x p) (e :: es) [] pos2, [], 0⟩] scope pos) spos) (tAsg (tLcG sp ta) (gName i)) := by
  refine ⟨fun pins s σ H D I h => ?_⟩
  rw [exec_Assign_Name_used _ _ _ _ hsw]
  refine wpAny_bind (wpAny_standAt (wpAny_bind ?_))
  show wpAny _ X.A (do let _ ← comprehension (.ListComp (.Name y p1) [⟨.Name y p2, .Call (.Name x p) (e :: es) [] pos2, [], 0⟩] scope pos) scope X.env (firstIterPos [⟨.Name y p2, .Call (.Name x p) (e :: es) [] pos2, [], 0⟩] pos) (newList []) false (eval (.Call (.Name x p) (e :: es) [] pos2) X.env) (some (assign (.Name n py) X.env))) _ _ s
  have h : tLcG sp ta σ H (fun x H1 => gName i x σ H1 D.nx) := h
  refine wpAny_bind (thn (lcG_core (Qf := fun _ s' => SP X pins D .next s') hc I O room ha ok.kind ok.free (fun y hy e => by rw [ok.uniq y hy, e]) hy hgl hdb hdy he hpl hs h fun L C s' m H' I' q hm f => ?_) fun _ s' hq => wpAny_pure (wpAny_pure hq))
  show wpAny _ _ (assign (.Name n py) X.env (.ref L)) _ _ _
  refine wpAny_assign_Name (store_ok2 (v := V.ref L) I' hN hn (.inl hnl) rfl (fun s2 I2 ⟨a, sb, ha⟩ => ?_) (.inr hnl))
  obtain ⟨f0, f1, f2, f3, f4, f5⟩ := f
  have haC : C ≠ a := by
    rcases ha with z | z
    · rw [z]; exact f1
    · exact fun e => f4 n a z e.symm
  refine ⟨m, hm.sameBut sb haC, fun h3 sb3 => ?_⟩
  exact ⟨_, H', I2.turned (t' := s2.toks) (fun b o hb e => (sb3.2 b hb).trans e) f0 f1 f3 f4 f5, q⟩
end
end L2

set_option Elab.async false
set_option linter.all false
set_option maxRecDepth 100000
set_option maxHeartbeats 4000000
/-! [x for x in f(..)], where what is out carries a promise -/
namespace L2
open PySem PySem.Spec PyProof.Rows GenW
/-- the items stand in the new list, the heap is the generator's own -/
def tLcY (sp : SpG3) (ta : TA) : TE := fun σ H Q => ta σ H fun vs H1 => ∃ Y : List V → V → Hp → Prop, ∀ cs ad, sp vs H1 ⟨cs, Y, fun ys x H2 H3 => H3 = H2 ∧ Y ys x H2, ad⟩ (fun ys H' => ∀ D, H1 D = none → H' D = none → Q (.ref D) (upd H' D (.lst ys))) (fun _ _ _ => False)
section
variable {X : Cx} {k : Nat} {ps : List Str} {sp : SpG3} {x y : Str} {p p1 p2 pos pos2 pos' : Pos} {e : Expr} {es : List Expr} {ta : TA} {scope : Scope} {use : Option (Value → Sem Unit)} {Qf : Value → Shared → Prop} {pins : List (Addr × Obj)} {s : Shared} {σ : St} {H : Hp} {Q : VK}
theorem lcY_core (hc : X.calm = true) (I : Inv X pins σ H s) (O : OwnG3 X.prog X.w X.K X.mg X.base x k ps sp) (room : Room (k + 1) X.A) (ha : PA X (e :: es) ta) (hkind : scope.kind = .function) (hfr : ∀ y ∈ scope.names, y.2 = .free → X.env.scope.names.lookup y.1 = some .cell ∨ X.env.scope.names.lookup y.1 = some .free)
    (hnm : ∀ x ∈ scope.names, x.2 = .local → scope.names.lookup x.1 = some .local) (hy : scope.names.lookup y = some .local) (hgl : Gl X x) (hdb : (x == ("__debug__" : Str)) = false) (hdy : (y == ("__debug__" : Str)) = false)
    (he : starEach (e :: es) X.env = (false, eval e X.env) :: starEach es X.env) (hpl : (backTo pos2 (starEach es X.env)).any (·.1) = false) (hs : ∀ z, foldedSetIterable (.Call (.Name x p) (e :: es) [] pos2) X.env z = pure z)
    (h : tLcY sp ta σ H Q)
    (hRR : ∀ D C s' m H', Inv X pins σ H' s' → Q (.ref D) H' → s'.heap.Ns C m → FpOk X pins H' C → compPost (model X.prog X.w) X.A X.xe use Qf (.ref D) C (.ok .next) s') :
    wpAny (model X.prog X.w) X.A (comprehension (.ListComp (.Name y p1) [⟨.Name y p2, .Call (.Name x p) (e :: es) [] pos2, [], 0⟩] scope pos) scope X.env pos' (newList []) false (eval (.Call (.Name x p) (e :: es) [] pos2) X.env) use) Qf X.xe s := by
  have hfree : ∀ y ∈ scope.names, y.2 = .free → ∃ c, X.env.cells.lookup y.1 = some c := fun y hy e => I.ok.has _ (hfr y hy e)
  obtain ⟨f, fd, G, hm, hk, hbd⟩ := O.ex
  refine wpAny_comprehension_free (use := use) rfl hs (closure_ok hfree) hkind hnm
    (wpAny_Call_Name_kw (ld_glob I hgl hm (PySem.W.callWith_K (h₀ := X.base) I.ok.mod.kin hk (thn (ha.run pos2 pins s σ H _ I h) fun us s1 ⟨vs, H1, I1, r, Y, q⟩ => ⟨I1.kIn, ?_⟩) he hpl) hdb))
  have hl2 : us.length = ps.length := by rw [← r.length]; exact G.len _ _ _ _ _ (q (fun _ _ _ => True) [])
  have hbs := hbd s1 us I1.kIn (by rw [List.append_nil]; exact hl2)
  rw [List.append_nil] at hbs
  obtain ⟨QQ, hQQ⟩ : ∃ QQ : List V → Hp → Prop, QQ = fun (ys : List V) (H' : Hp) => ∀ D, H1 D = none → H' D = none → Q (.ref D) (upd H' D (.lst ys)) := ⟨_, rfl⟩
  have q2 : ∀ cs ad, sp vs H1 ⟨cs, Y, fun ys x H2 H3 => H3 = H2 ∧ Y ys x H2, ad⟩ QQ (fun _ _ _ => False) := by rw [hQQ]; exact q
  refine wpAny_call (codeAny_mono (G.run X.A X.stack s1 H1 ⟨us, []⟩ us vs (fun Dl' Q' => ∃ cs ad, Dl' = ⟨cs, Y, fun ys x H2 H3 => H3 = H2 ∧ Y ys x H2, ad⟩ ∧ Q' = QQ) (fun _ _ _ => False) ⟨_, _, fun _ _ _ => True, [], rfl, rfl⟩ (room.mono (Nat.le_succ k)) I1.env0 hbs r (fun Dl' Q' z => by obtain ⟨cs, ad, z1, z2⟩ := z; rw [z1, z2]; exact q2 cs ad)) fun r s2 hq => ?_)
  cases r with
  | error _ => exact hq.elim
  | ok fl =>
  cases fl with
  | next => exact hq.elim
  | brk => exact hq.elim
  | cont => exact hq.elim
  | ret u =>
  obtain ⟨a, g, c, go, rfl, ha1, ha2, hgo, isg, hgs, hos, hba, hkp, wake⟩ := hq
  have I2 : Inv X pins σ H1 s2 := I1.call' (ch := []) hos (Un.kept hkp) (I1.hok.kept hkp) hba fun _ z => nomatch z
  refine wpAny_pyIter_gen (isg _ hgo) ?_
  have L : LowX X pins s1.heap.objs.size := I1.low
  have hfrF : ∀ b ∈ frs X.stack, b < s1.heap.objs.size := fun b hb => by
    obtain ⟨_, o, ho, _⟩ := I1.stack.mem hb
    exact Heap.lt_size ho
  have hgl2 : g < s2.gens.size := (Array.getElem?_eq_some_iff.mp hgs).1
  refine wpAny_newObj_type (newEnv_comp ?_) (by show 0 ≤ sizeLine; decide)
  obtain ⟨D, hD⟩ : ∃ D, s2.heap.objs.size = D := ⟨_, rfl⟩
  obtain ⟨C, hC⟩ : ∃ C, s2.heap.objs.size + 1 = C := ⟨_, rfl⟩
  have hDC : D ≠ C := by rw [← hD, ← hC]; exact Nat.ne_of_lt (Nat.lt_succ_self _)
  have nDlt : s1.heap.objs.size < D := by rw [← hD]; exact Nat.lt_of_le_of_lt ha1 ha2
  have nD : s1.heap.objs.size ≤ D := Nat.le_of_lt nDlt
  have nClt : s1.heap.objs.size < C := by rw [← hC]; exact Nat.lt_succ_of_lt (Nat.lt_of_le_of_lt ha1 ha2)
  have nC : s1.heap.objs.size ≤ C := Nat.le_of_lt nClt
  have hCs : (s2.heap.push { cls := .type "list", data := .seq ([] : List Value).toArray }).objs.size = C := by rw [Heap.size_push]; exact hC
  generalize hce : compEnvC scope (cellsFrom ((s2.heap.push { cls := .type "list", data := .seq ([] : List Value).toArray }).objs.size + 1) scope.names (cloFrom X.env.cells scope.names [])) (s2.heap.push { cls := .type "list", data := .seq ([] : List Value).toArray }).objs.size X.env = ce
  rw [hCs] at hce
  have cL : ce.locals = C := by subst hce; rfl
  have cK : ce.scope.kind = .function := by subst hce; exact hkind
  have cY : ce.kindOf y = some .local := by subst hce; exact lookup_relabel_local hy
  have cP : (ce.scope.kind == .class || (ce.scope.kind == .module && ce.locals != ce.globals)) = false := by rw [cK]; rfl
  show codeAny (model X.prog X.w) X.A (.compStart (.ListComp (.Name y p1) [⟨.Name y p2, .Call (.Name x p) (e :: es) [] pos2, [], 0⟩] scope pos) 0 (.ref a) (.ref s2.heap.objs.size) (compEnvC scope (cellsFrom ((s2.heap.push { cls := .type "list", data := .seq ([] : List Value).toArray }).objs.size + 1) scope.names (cloFrom X.env.cells scope.names [])) (s2.heap.push { cls := .type "list", data := .seq ([] : List Value).toArray }).objs.size X.env))
    (compPost (model X.prog X.w) X.A X.xe use Qf (.ref s2.heap.objs.size) (s2.heap.push { cls := .type "list", data := .seq ([] : List Value).toArray }).objs.size) { s2 with heap := pushCells ((s2.heap.push { cls := .type "list", data := .seq ([] : List Value).toArray }).push { cls := .type "dict", data := .dict #[] }) scope.names }
  rw [hCs, hD, hce]
  have nsC4 : (pushCells ((s2.heap.push { cls := .type "list", data := .seq ([] : List Value).toArray }).push { cls := .type "dict", data := .dict #[] }) scope.names).Ns C fun _ => none := by
    rw [← hCs]
    exact Heap.Ns.keeps (Heap.Ns.new ..) fun b o e => pushCells_keeps _ _ _ _ e
  have lD4 : (pushCells ((s2.heap.push { cls := .type "list", data := .seq ([] : List Value).toArray }).push { cls := .type "dict", data := .dict #[] }) scope.names).get? D = some { cls := .type "list", data := .seq ([] : List Value).toArray 0 } := by
    refine pushCells_keeps _ _ _ _ (Heap.get?_push_of_some _ ?_)
    rw [← hD]
    exact Heap.get?_push_size _ rfl
  have kp4 : ∀ b o, s2.heap.get? b = some o → (pushCells ((s2.heap.push { cls := .type "list", data := .seq ([] : List Value).toArray }).push { cls := .type "dict", data := .dict #[] }) scope.names).get? b = some o := fun b o e => pushCells_keeps _ _ _ _ (Heap.get?_push_of_some _ (Heap.get?_push_of_some _ e))
  obtain ⟨s4, hs4⟩ : ∃ s4 : Shared, s4 = { s2 with heap := pushCells ((s2.heap.push { cls := .type "list", data := .seq ([] : List Value).toArray }).push { cls := .type "dict", data := .dict #[] }) scope.names } := ⟨_, rfl⟩
  rw [← hs4]
  have nsC : s4.heap.Ns C fun _ => none := by rw [hs4]; exact nsC4
  have lD : s4.heap.get? D = some { cls := .type "list", data := .seq ([] : List Value).toArray 0 } := by rw [hs4]; exact lD4
  have kp : ∀ b o, s2.heap.get? b = some o → s4.heap.get? b = some o := by rw [hs4]; exact kp4
  have os4 : s4.os = s2.os := by rw [hs4]
  have gn4 : s4.gens = s2.gens := by rw [hs4]
  clear hs4 kp4 lD4 nsC4
  have hba4 : AllBare s4.gens := by rw [gn4]; exact hba
  have I4 : Inv X pins σ H1 s4 := I2.call' (ch := []) os4 (Un.kept kp) (I2.hok.kept kp) hba4 fun _ z => nomatch z
  have hCD : ∀ {b : Addr}, b ∈ [C, D] → b = C ∨ b = D := fun hb => by simpa using hb
  -- the deal
  generalize hDl : (⟨fun ys HE sE => Inv X pins σ HE sE ∧ (∃ m, sE.heap.Ns C m) ∧ ∃ its n, sE.heap.get? D = some { cls := .type "list", data := .seq (its : List Value).toArray n } ∧ Vals ys its ∧ ys.length ≤ sizeLine, Y, fun ys x H2 H3 => H3 = H2 ∧ Y ys x H2, [C, D]⟩ : Deal) = Dl
  have hA : ∃ cs ad, Dl = ⟨cs, Y, fun ys x H2 H3 => H3 = H2 ∧ Y ys x H2, ad⟩ ∧ QQ = QQ := ⟨_, _, hDl.symm, rfl⟩
  have adAt : ∀ {HE : Hp} {sE : Shared} {m : Str → Option Value} {its : List Value} {n : Nat}, sE.heap.Ns C m → sE.heap.get? D = some { cls := .type "list", data := .seq its.toArray n } → ∀ b ∈ Dl.ad, ∃ o, sE.heap.get? b = some o ∧ ∀ v, o.data ≠ .cell v := fun {HE sE m its n} hn hl b hb => by
    subst hDl
    rcases hCD hb with rfl | rfl
    · obtain ⟨o, es', ep, ho, hd, _⟩ := hn
      exact ⟨o, ho, fun v z => by rw [hd] at z; cases z⟩
    · exact ⟨_, hl, fun v z => by cases z⟩
  have mkWk : ∀ {H' s' m its n}, Inv X pins σ H' s' → s1.heap.objs.size ≤ s'.heap.objs.size → H' C = none → H' D = none → s'.heap.Ns C m → s'.heap.get? D = some { cls := .type "list", data := .seq (its : List Value).toArray n } → Wk X.prog X.w X.base X.stack s1.heap.objs.size Dl.ad H' s' := fun {H' s' m its n} I' hz hc' hd' hn hl =>
    ⟨I'.bare, I'.bs, I'.stack, fun b hb => ⟨hfrF b hb, I'.stkFree b hb⟩, I'.hok, hz, fun b hb => by
      have q := adAt (HE := H') hn hl b hb
      subst hDl
      rcases hCD hb with rfl | rfl
      · exact ⟨nClt, hc', fun z => absurd (hfrF _ z) (Nat.not_lt.mpr nC), q⟩
      · exact ⟨nDlt, hd', fun z => absurd (hfrF _ z) (Nat.not_lt.mpr nD), q⟩⟩
  have go4 : s4.heap.get? a = some go := kp _ _ hgo
  have loop : codeAny (model X.prog X.w) X.A (.compLoop (.ListComp (.Name y p1) [⟨.Name y p2, .Call (.Name x p) (e :: es) [] pos2, [], 0⟩] scope pos) 0 (.ref a) (.ref D) ce) (compPost (model X.prog X.w) X.A X.xe use Qf (.ref D) C) s4 := by
    obtain ⟨Pd, hPd⟩ : ∃ Pd : Nat → Shared → Prop, Pd = fun n s' => ∃ gs H', s'.gens[g]? = some gs ∧ gs.Goes (model X.prog X.w) X.A.in1 (End3 X.prog X.w X.stack s1.heap.objs.size Dl QQ (fun _ _ _ => False) a g) (GY3 X.prog X.w X.base X.stack [(a, go)] s1.heap.objs.size Dl) n (.send .none) (s'.setGen g .running) ∧ s'.heap.get? a = some go ∧ Inv X pins σ H' s' := ⟨_, rfl⟩
    refine compLoop_any Pd ?_ sizeLine ?_
    · intro n s3 hh
      rw [hPd] at hh
      obtain ⟨gs, H3, hgs3, hgoes, hgo3, I3⟩ := hh
      have hgl3 : g < s3.gens.size := (Array.getElem?_eq_some_iff.mp hgs3).1
      have hcd : ∃ nm qn, go.cls = .type "generator" ∧ go.data = .fields #[.int g 0, nm, qn] := by
        obtain ⟨o, nm, qn, ho, hc, hd, _⟩ := isg _ hgo
        rw [hgo] at ho; cases ho
        exact ⟨nm, qn, hc, hd⟩
      obtain ⟨nm, qn, hgc, hgd⟩ := hcd
      refine wpAny_gsz (n := g + 1) hgl3 (next_genG (A := X.A) (I3.ok.hd hc) I3.nolimit room.depth (isg _ hgo3) hgs3 hgoes (fun v s5 gs' hbare hv => ?_) (fun s5 hf h' hk' => ?_) fun er s5 her => ?_)
      · obtain ⟨ys, x1, HE, H4, mine, hn, rv, hcs, hz, un, os5, ag5, hok5, hpn, hz5, hcp, yd, hmine, hmad, wakes⟩ := hv
        intro hsz
        have hcs2 : Inv X pins σ HE (s3.setGen g .running) ∧ (∃ m, (s3.setGen g .running).heap.Ns C m) ∧ ∃ its n, (s3.setGen g .running).heap.get? D = some { cls := .type "list", data := .seq (its : List Value).toArray n } ∧ Vals ys its ∧ ys.length ≤ sizeLine := by subst hDl; exact hcs
        obtain ⟨IE, ⟨m, hnC⟩, its, nn, hlD, hvs, hlen0⟩ := hcs2
        have hsz5 : g < s5.gens.size := by
          have z : (s5.setGen g gs').gens.size = s5.gens.size := setGen_size _ _ _
          have z2 : g + 1 ≤ (s5.setGen g gs').gens.size := hsz
          omega
        have pin : ∀ b ∈ [C, D], ∀ o, (s3.setGen g .running).heap.get? b = some o → s5.heap.get? b = some o ∧ H4 b = none := fun b hb o eo => hcp (b, o) (by subst hDl; exact mem_pinsAt hb eo)
        have hnC5 : s5.heap.Ns C m := hnC.at' fun o eo => (pin C List.mem_cons_self o eo).1
        obtain ⟨hlD5, nD4⟩ := pin D (List.mem_cons_of_mem _ List.mem_cons_self) _ hlD
        have nC4 : H4 C = none := by
          obtain ⟨o, _, _, ho, _⟩ := hnC
          exact (pin C List.mem_cons_self o ho).2
        have I5 : Inv X pins σ H4 (s5.setGen g gs') := (IE.stretch L un hok5 os5 ag5).gensTo (allBare_setGen ag5 hbare)
        have hgo5 : s5.heap.get? a = some go := (hpn _ (List.mem_singleton.mpr rfl)).1
        refine go_of (s := s5.setGen g gs') hgo5 hgc hgd (by decide) ?_
        refine wpAny_assign_Name (wpAny_storeName_local cY (m := m) (by rw [cL]; exact hnC5) (fun h6 hn6 hb6 => ?_) cP)
        rw [cL] at hn6 hb6
        refine wpAny_tests_nil ?_
        rw [if_pos rfl]
        refine wpAny_Name (wpAny_loadName_local cK cY (m := fun z => if z = y then some v else m z) (by rw [cL]; exact hn6) (if_pos rfl) ?_) hdy
        have hlD6 : h6.get? D = some { cls := .type "list", data := .seq its.toArray nn } := (hb6.2 D hDC).trans hlD5
        have hlen := hvs.length
        refine append_at hlD6 (fun h7 hb7 hl7 => ?_) (by rw [List.size_toArray]; omega)
        have keep : ∀ b o, b ∉ [C, D] → s5.heap.get? b = some o → h7.get? b = some o := fun b o hb eo => by
          simp only [List.mem_cons, List.not_mem_nil, or_false, not_or] at hb
          exact (hb7.2 b hb.2).trans ((hb6.2 b hb.1).trans eo)
        have I7 : Inv X pins σ H4 { s5.setGen g gs' with heap := h7, toks := s5.toks + 1 } := I5.far L rfl I5.bare (ch := [C, D]) (fun b hb => by rcases hCD hb with rfl | rfl; exact ⟨nC, nC4⟩; exact ⟨nD, nD4⟩) keep
        have haC : a ∉ [C, D] := fun hb => by
          rcases hCD hb with z | z
          · rw [z, ← hC] at ha2; exact absurd (Nat.lt_trans ha2 (Nat.lt_succ_self _)) (Nat.lt_irrefl _)
          · rw [z, ← hD] at ha2; exact absurd ha2 (Nat.lt_irrefl _)
        have hnC7 : h7.Ns C fun z => if z = y then some v else m z := hn6.sameBut hb7 (Ne.symm hDC)
        obtain ⟨s7, hs7⟩ : ∃ s7 : Shared, s7 = { s5.setGen g gs' with heap := h7, toks := s5.toks + 1 } := ⟨_, rfl⟩
        have hp7 : s7.heap = h7 := by rw [hs7]
        have gn7 : s7.gens = (s5.setGen g gs').gens := by rw [hs7]
        rw [← hs7] at I7
        have I7r : Inv X pins σ H4 (s7.setGen g .running) := I7.gensTo (allBare_setGen I7.bare rfl)
        have hgs7 : s7.gens[g]? = some gs' := by rw [gn7]; exact setGen_at hsz5
        have hn7 : (s7.setGen g .running).heap.Ns C fun z => if z = y then some v else m z := by show s7.heap.Ns C _; rw [hp7]; exact hnC7
        have hl7' : (s7.setGen g .running).heap.get? D = some { cls := .type "list", data := .seq (its ++ [v]).toArray (nn + 1) } := by
          show s7.heap.get? D = _
          rw [hp7, hl7]
          simp
        have hz7 : s1.heap.objs.size ≤ (s7.setGen g .running).heap.objs.size := Nat.le_trans nC (Nat.le_of_lt hn7.lt)
        have wk := wakes H4 (s7.setGen g .running) (mkWk I7r hz7 nC4 nD4 hn7 hl7') (by subst hDl; exact ⟨I7r, ⟨_, hn7⟩, _, _, hl7', hvs.append (.cons rv .nil), by rw [List.length_append, List.length_singleton]; omega⟩) (fun b mb o eb => ⟨(by show s7.heap.get? b = _; rw [hp7]; exact keep b o (fun z => hmad b mb (by subst hDl; exact z)) eb), (hmine b mb).1⟩) (by subst hDl; exact ⟨rfl, yd⟩)
        cases n with
        | zero => exact False.elim wk
        | succ q =>
          have fin : Pd q s7 := by
            rw [hPd]
            exact ⟨gs', H4, hgs7, wk, by rw [hp7]; exact keep a go haC hgo5, I7⟩
          rw [hs7] at fin
          exact ⟨q, Nat.lt_succ_self q, fin⟩
      · obtain ⟨ys, HE, H4, hcs, hz, os5, ag5, un, hok5, hcp, hQ⟩ := hf
        intro _
        have hcs2 : Inv X pins σ HE (s3.setGen g .running) ∧ (∃ m, (s3.setGen g .running).heap.Ns C m) ∧ ∃ its n, (s3.setGen g .running).heap.get? D = some { cls := .type "list", data := .seq (its : List Value).toArray n } ∧ Vals ys its ∧ ys.length ≤ sizeLine := by subst hDl; exact hcs
        obtain ⟨IE, ⟨m, hnC⟩, its, nn, hlD, hvs, hlen0⟩ := hcs2
        have pin : ∀ b ∈ [C, D], ∀ o, (s3.setGen g .running).heap.get? b = some o → s5.heap.get? b = some o ∧ H4 b = none := fun b hb o eo => hcp (b, o) (by subst hDl; exact mem_pinsAt hb eo)
        have hnC5 : s5.heap.Ns C m := hnC.at' fun o eo => (pin C List.mem_cons_self o eo).1
        obtain ⟨hlD5, nD4⟩ := pin D (List.mem_cons_of_mem _ List.mem_cons_self) _ hlD
        have nC4 : H4 C = none := by
          obtain ⟨o, _, _, ho, _⟩ := hnC
          exact (pin C List.mem_cons_self o ho).2
        have I5 : Inv X pins σ H4 (s5.setGen g .finished) := (IE.stretch L un hok5 os5 ag5).gensTo (allBare_setGen ag5 rfl)
        have I6 : Inv X pins σ H4 { s5.setGen g .finished with heap := h' } := I5.call' (ch := []) rfl (Un.kept hk') (I5.hok.kept hk') I5.bare fun _ z => nomatch z
        have I7 := I6.track L nD nD4 hlen0 (hk' _ _ hlD5) hvs
        refine hRR D C _ m _ I7 ?_ (hnC5.keeps hk') ?_
        · rw [hQQ] at hQ
          exact hQ D (I1.hok.fresh nD) nD4
        · obtain ⟨t1, t2, t3, t4⟩ := L.apart nC
          exact ⟨by rw [upd_ne (Ne.symm hDC)]; exact nC4, t2, fun z => I1.nofs nC z, t1, t3, t4⟩
      · obtain ⟨ys, HE, sE, hcs, hz, cx, hge⟩ := her
        obtain ⟨_, _, _, _, _, _, _, _, _, _, _, _, hE⟩ := cx
        exact hE.elim
    · rw [hPd]
      refine ⟨.fresh c, H1, by rw [gn4]; exact hgs, ⟨rfl, ?_⟩, go4, I4⟩
      refine wake X.A.in1 (s4.setGen g .running) Dl QQ hA room.in1 I1.ok.frames kp (os4.trans hos) (allBare_setGen hba4 rfl) (fun b hb => ?_) ?_
      · refine ⟨?_, adAt (HE := H1) (sE := s4.setGen g .running) nsC lD b hb⟩
        subst hDl
        rcases hCD hb with rfl | rfl
        · rw [← hC]; exact Nat.le_succ _
        · rw [← hD]; exact Nat.le_refl _
      · subst hDl
        exact ⟨I4.gensTo (allBare_setGen hba4 rfl), ⟨_, nsC⟩, [], 0, lD, .nil, Nat.zero_le _⟩
  exact codeAny_compStart_list loop (wpAny_pyIter_gen (isg _ go4) loop)
end
section
variable {X : Cx} {k : Nat} {ps : List Str} {sp : SpG3} {x y : Str} {p p1 p2 pos pos2 : Pos} {e : Expr} {es : List Expr} {ta : TA} {scope : Scope} {own : List (Str × Nat)}
/-- as a value -/
theorem pe_lcY (hc : X.calm = true) (O : OwnG3 X.prog X.w X.K X.mg X.base x k ps sp) (room : Room (k + 1) X.A) (ha : PA X (e :: es) ta) (ok : BlkOk X.N X.env.scope scope own) (hy : scope.names.lookup y = some .local) (hgl : Gl X x := by rfl) (hdb : (x == ("__debug__" : Str)) = false := by decide) (hdy : (y == ("__debug__" : Str)) = false := by decide)
    (he : starEach (e :: es) X.env = (false, eval e X.env) :: starEach es X.env := by rfl) (hpl : (backTo pos2 (starEach es X.env)).any (·.1) = false := by rfl) (hs : ∀ z, foldedSetIterable (.Call (.Name x p) (e :: es) [] pos2) X.env z = pure z := by intro _; rfl) :
    PE X (.ListComp (.Name y p1) [⟨.Name y p2, .Call (.Name x p) (e :: es) [] pos2, [], 0⟩] scope pos) (tLcY sp ta) := by
  refine ⟨fun pins s σ H Q I h => ?_⟩
  rw [eval_ListComp]
  refine lcY_core hc I O room ha ok.kind ok.free (fun y hy e => by rw [ok.uniq y hy, e]) hy hgl hdb hdy he hpl hs h fun D C s' m H' I' q hn f => ⟨m, hn, fun h'' sb => ?_⟩
  obtain ⟨f0, f1, f2, f3, f4, f5⟩ := f
  exact ⟨.ref D, H', I'.turned (t' := s'.toks) (fun b o hb e => (sb.2 b hb).trans e) f0 f1 f3 f4 f5, rfl, q⟩
end
end L2

set_option Elab.async false
set_option maxRecDepth 100000
set_option maxHeartbeats 4000000
/-! repr of data; defs whose promise holds where no repr is under way; the end of a law of such a def -/
namespace L2
open PySem PySem.Spec PyProof.Rows
section
variable {X : Cx}
/-- repr(x), x data of any depth -/
theorem call_repr (hg : X.A.guards = some []) (hu : X.A.units + 65 < cLine) : CallR X (.builtin "repr") (fun xs H Q => ∃ x d, xs = [x] ∧ Dp X.K H x d ∧ d.canLay0 = true ∧ d.depth ≤ 64 ∧ d.showable = true ∧ d.shown.length ≤ sizeLine ∧ Q (.str d.shown) H) := by
  intro pins s σ H xs us Q I r h
  obtain ⟨x, d, rfl, hd, hl, hdp, hs, hz, q⟩ := h
  obtain ⟨u, rfl, rx⟩ := vals1 r
  have big : ∀ a, x = .ref a → wpAny (model X.prog X.w) X.A (call (.builtin "repr") [u]) (EP X pins σ Q) X.xe s := fun a ea => by
    subst ea
    obtain rfl : u = Value.ref a := rx
    obtain ⟨as, r1⟩ := Dp.reads I d (.ref a) (.ref a) hd rfl
    exact repr_of_reads' r1 hs (PyData.noDict_hsm (PyData.hasDict_of_canLay d hl)) hg (by omega) (fun _ _ e => e) (fun h' u tk hk => ⟨.str _, H, I.kept hk, ⟨_, rfl⟩, q⟩) hz
  cases hd with
  | non =>
    obtain rfl : u = Value.none := rx
    rw [PyData.shown] at q
    exact PySem.P.repr_of_none ⟨.str _, H, I.tok _, ⟨_, rfl⟩, q⟩
  | bl b =>
    obtain rfl : u = Value.bool b := rx
    rw [PyData.shown] at q
    refine PySem.P.repr_of_bool ⟨.str _, H, I.tok _, ⟨_, rfl⟩, ?_⟩
    cases b <;> exact q
  | int i =>
    obtain ⟨t, rfl⟩ := rx
    rw [PyData.shown] at q
    exact PySem.P.repr_of_int (by simpa [PyData.showable] using hs) ⟨.str _, H, I.tok _, ⟨_, rfl⟩, q⟩
  | str z =>
    obtain ⟨t, rfl⟩ := rx
    rw [PyData.shown] at q hz
    exact PySem.P.repr_of_str ⟨.str _, H, I.tok _, ⟨_, rfl⟩, q⟩ hz
  | lst h1 h2 => exact big _ rfl
  | tup h1 h2 => exact big _ rfl
end
/-- a def whose promise holds where no repr is under way -/
structure FnClr (P : Program) (w : World) (K : PySem.W.Frag) (mg : Str → Option Value) (base : Heap) (CX : CXT) (k : Nat) (f : Addr) (fd : FuncData) (ps : List Str) (sp : Sp) : Prop where
  len : ∀ vs H Q E, sp vs H Q E → vs.length = ps.length
  run : ∀ (AA : Around) (outer : List Env) (sh : Shared) (H : Hp) (args : Args) (us : List Value) (vs : List V) (Q : VK) (E : XK), AA.guards = some [] → Room k AA → Env0 P w K mg base AA outer sh H →
    BindsTo sh fd args (ps.zip us) → Vals vs us → sp vs H Q E → codeAny (model P w) AA (.call (.ref f) args) (CR CX outer P w H sh Q E) sh
section
variable {CX : CXT} {P : Program} {w : World} {K : PySem.W.Frag} {mg : Str → Option Value} {base : Heap} {k : Nat} {f : Addr} {fd : FuncData} {x qual : Str} {st : Stmt} {N ps : List Str} {sp : Sp}
theorem FnOk.toClr (F : FnOk P w K mg base CX k f fd ps sp) : FnClr P w K mg base CX k f fd ps sp := ⟨F.len, fun AA outer sh H args us vs Q E _ hr => F.run AA outer sh H args us vs Q E hr⟩
theorem FnClr.imp {sp' : Sp} (F : FnClr P w K mg base CX k f fd ps sp) (h : ∀ vs H Q E, sp' vs H Q E → sp vs H Q E) : FnClr P w K mg base CX k f fd ps sp' :=
  ⟨fun vs H Q E z => F.len vs H Q E (h _ _ _ _ z), fun AA outer sh H args us vs Q E hg hr he hb hv z => F.run AA outer sh H args us vs Q E hg hr he hb hv (h _ _ _ _ z)⟩
theorem fnClr_of (F : Fun K x qual st f fd) (S : FnScope N ps (defScope st)) (len : ∀ vs H Q E, sp vs H Q E → vs.length = ps.length)
    (hbody : ∀ (cdv : Value) (AA : Around) (outer : List Env) (sh : Shared) (H : Hp) (vs : List V) (Q : VK) (E : XK), (AA.deeper (envOfC qual (defScope st) sh.heap.objs.size f cdv)).guards = some [] → Room k (AA.deeper (envOfC qual (defScope st) sh.heap.objs.size f cdv)) → sp vs H Q E →
      ∃ t, PSs (cxOf CX P w K mg base N qual (defScope st) f cdv AA outer sh H E) (defBody st) t ∧ t { nx := fun _ H' => Q .non H', rt := Q } (L2.start N vs) H) : FnClr P w K mg base CX (k + 1) f fd ps sp := by
  obtain ⟨oc, od, kV, doc, pm, an, cdv, ct, osl, rfl, lk, hcd⟩ := F.ex
  refine ⟨len, fun AA outer sh H args us vs Q E hg hr e0 hb r hsp => ?_⟩
  have hl := len _ _ _ _ hsp
  have KX : K.In sh.heap := e0.mod.kin.keeps fun b o e => (e0.bs b o e).1
  have lim : sh.heap.NoLimit := e0.mod.nolimit.keeps fun b o e => (e0.bs b o e).1
  have binds : ∀ y ∈ ps.zip us, (defScope st).names.lookup y.1 = some .local ∨ ((defScope st).names.lookup y.1 = some .cell ∧ ((cellsFrom (sh.heap.objs.size + 1) (defScope st).names []).lookup y.1).isSome = true) := by
    rintro ⟨n, v⟩ hy
    rcases S.par n (List.of_mem_zip hy).1 with q | q
    · exact .inl q
    · exact .inr ⟨q, PySem.W.cellsFrom_some _ _ _ (.inl q)⟩
  refine codeAny_call_function hr.depth (KX _ _ lk) rfl S.co S.gen rfl (PySem.W.codeRec_of KX hcd) (hb _ _ _ _ ?_)
  refine wpAny_newFunctionEnv_cells S.kind binds fun env he s1 xx => ?_
  subst he
  refine ⟨lim.keeps xx.toInCall.keep, codeAny_func ?_⟩
  obtain ⟨t, ht, hq⟩ := hbody cdv AA outer sh H vs Q E hg (hr.deeper _) hsp
  have I := inv_start (CX := CX) (cd := cdv) (E := E) S hr.hd e0 hl r xx
  refine wpAny_mono (ht.run [] s1 (L2.start N vs) H _ I hq) (fun fl s' hs => ?_) fun _ _ hs => hs
  cases fl with
  | ret u =>
    obtain ⟨v, σ', H', J, rv, q⟩ := hs
    exact ⟨v, H', J.os, J.bare, J.base, J.hok, rv, q⟩
  | next =>
    obtain ⟨σ', H', J, q⟩ := hs
    exact ⟨V.non, H', J.os, J.bare, J.base, J.hok, rfl, q⟩
  | brk =>
    obtain ⟨_, _, _, q⟩ := hs
    exact q.elim
  | cont =>
    obtain ⟨_, _, _, q⟩ := hs
    exact q.elim
/-- .. whose suite lets nothing past -/
theorem Fun.okClr (F : Fun K x qual st f fd) (S : FnScope N ps (defScope st)) (len : ∀ vs H Q E, sp vs H Q E → vs.length = ps.length)
    (hbody : ∀ (cdv : Value) (AA : Around) (outer : List Env) (sh : Shared) (H : Hp) (vs : List V) (Q : VK) (E : XK), (AA.deeper (envOfC qual (defScope st) sh.heap.objs.size f cdv)).guards = some [] → Room k (AA.deeper (envOfC qual (defScope st) sh.heap.objs.size f cdv)) → sp vs H Q E →
      ∃ t, PSs (cxOf CX0 P w K mg base N qual (defScope st) f cdv AA outer sh H E).nox (defBody st) t ∧ t { nx := fun _ H' => Q .non H', rt := Q } (L2.start N vs) H) : FnClr P w K mg base CX0 (k + 1) f fd ps sp :=
  fnClr_of F S len fun cdv AA outer sh H vs Q E hg hr hsp => by
    obtain ⟨t, h, q⟩ := hbody cdv AA outer sh H vs Q E hg hr hsp
    exact ⟨t, h.nox, q⟩
end
/-- a def of the top that keeps such a promise -/
structure OwnClr (P : Program) (w : World) (K : PySem.W.Frag) (mg : Str → Option Value) (base : Heap) (CX : CXT) (x : Str) (k : Nat) (ps : List Str) (sp : Sp) : Prop where
  ex : ∃ (f : Addr) (fd : FuncData), FnClr P w K mg base CX k f fd ps sp ∧ mg x = some (.ref f) ∧ PySem.W.keepIn K (.ref f) = true ∧ Binds K fd ps []
section
variable {P : Program} {w : World} {K : PySem.W.Frag} {mg : Str → Option Value} {base : Heap} {CX : CXT} {x : Str} {k : Nat} {ps : List Str} {sp : Sp} {st : Stmt}
theorem DefAt.ownClr (D : DefAt K mg x st ps) (h : ∀ f fd, Fun K x x st f fd → FnClr P w K mg base CX k f fd ps sp) : OwnClr P w K mg base CX x k ps sp := by
  obtain ⟨f, fd, F, hm, hb⟩ := D.ex
  exact ⟨f, fd, h f fd F, hm, F.kp, hb⟩
theorem Own.toClr (O : Own P w K mg base CX x k ps sp) : OwnClr P w K mg base CX x k ps sp := by
  obtain ⟨f, fd, F, hm, hk, hb⟩ := O.ex
  exact ⟨f, fd, F.toClr, hm, hk, hb⟩
end
section
variable {X : Cx} {CX : CXT} {x : Str} {k : Nat} {ps : List Str} {sp : Sp} {e : Expr} {es : List Expr} {t : TA} {p pos : Pos}
/-- f(e, ..) of such a def -/
theorem pe_ownClr (O : OwnClr X.prog X.w X.K X.mg X.base CX x k ps sp) (hg0 : X.A.guards = some []) (hr : Room k X.A) (hx : Passes CX X E0) (ha : PA X (e :: es) t) (hg : Gl X x := by rfl) (hdb : (x == ("__debug__" : Str)) = false := by decide)
    (he : starEach (e :: es) X.env = (false, eval e X.env) :: starEach es X.env := by rfl) (hpl : (backTo pos (starEach es X.env)).any (·.1) = false := by rfl) : PE X (.Call (.Name x p) (e :: es) [] pos) (tCall sp [] E0 t) := by
  obtain ⟨f, fd, F, hm, hk, hb⟩ := O.ex
  refine ⟨fun pins s σ H Q I h => wpAny_Call_Name_kw (ld_glob I hg hm ?_ hdb)⟩
  refine PySem.W.callWith_K (h₀ := X.base) I.ok.mod.kin hk (thn (ha.run pos pins s σ H _ I h) fun us s1 ⟨vs, H1, I1, r, hsp⟩ => ⟨I1.kIn, ?_⟩) he hpl
  have hsp : sp vs H1 Q E0 := by
    have z : sp (vs ++ []) H1 Q E0 := hsp
    rwa [List.append_nil] at z
  have hl : us.length = ps.length := by
    rw [← r.length]
    exact F.len _ _ _ _ hsp
  have bd := hb s1 us I1.kIn (by rw [List.append_nil]; exact hl)
  rw [List.append_nil] at bd
  refine wpAny_call (codeAny_mono (F.run X.A X.stack s1 H1 ⟨us, []⟩ us vs Q E0 hg0 hr I1.env0 bd r hsp) fun rr s' hq => ?_)
  match rr, hq with
  | .error ee, hq => exact hx pins σ H1 s1 ee s' I1 hq
  | .ok (.ret u), hq => exact I1.after hq
  | .ok .next, hq => exact hq.elim
  | .ok .brk, hq => exact hq.elim
  | .ok .cont, hq => exact hq.elim
end
/-! ### the end -/
/-- nothing is tracked but the script, where it is -/
def scr (t : Bool) (a : Addr) (o : Obj) (ns : List Int) : Hp := fun b => if t = true ∧ b = a then some (.frz o (.lst (ns.map V.int))) else none
theorem scr_at {t : Bool} {a b : Addr} {o : Obj} {ns : List Int} {u : HO} (h : scr t a o ns b = some u) : t = true ∧ b = a ∧ u = .frz o (.lst (ns.map V.int)) := by
  unfold scr at h
  by_cases hb : t = true ∧ b = a
  · rw [if_pos hb] at h
    cases h
    exact ⟨hb.1, hb.2, rfl⟩
  · rw [if_neg hb] at h
    cases h
theorem scr_no {t : Bool} {a b : Addr} {o : Obj} {ns : List Int} (h : ¬ (t = true ∧ b = a)) : scr t a o ns b = none := if_neg h
theorem law_callClr {P : Program} {w : World} {K : PySem.W.Frag} {mg mb : Str → Option Value} {CX : CXT} {k : Nat} {fa a : Addr} {fd : FuncData} {x : Str} {sp : Sp} {sh : Shared} {vs : List Value} {ns : List Int}
    (KX : K.In sh.heap) (hns : sh.heap.Ns mainGlobals mg) (hb : sh.heap.Ns builtinsNs mb) (hbb : ∀ x : Str, x ≠ "__name__" → mb x = bootBuiltins x) (hlim : sh.heap.NoLimit) (hgn : sh.gens = #[])
    (ha : sh.heap.get? a = some { cls := .type "list", data := .seq vs.toArray }) (hi : IntsAre vs ns) (hl : ns.length ≤ sizeLine) (hr : Room k callerA)
    (F : ∀ base : Heap, K.In base → base.Ns mainGlobals mg → FnClr P w K mg base CX k fa fd [x] sp) (hbind : ∀ (s : Shared) (u : Value), BindsTo s fd ⟨[u], []⟩ [(x, u)])
    (hsp : ∀ H : Hp, SqL K H a (ns.map V.int) → sp [.ref a] H (fun v _ => v = .bl true) fun _ _ _ => False)
    (hCX : ∀ H e s', CX [] H sh (fun _ _ _ => False) e s' → False) :
    codeAny (model P w) callerA (.call (.ref fa) ⟨[.ref a], []⟩) (fun r s' => r = .ok (.ret (.bool true)) ∧ OldK sh.heap s'.heap ∧ s'.os = sh.os ∧ AllBare s'.gens) sh := by
  have rv := vals_ints hi
  have hlen := hi.length
  obtain ⟨t, ht⟩ : ∃ t : Bool, t = true ↔ K.lookup a = none := by
    cases K.lookup a with
    | none => exact ⟨true, fun _ => rfl, fun _ => rfl⟩
    | some o => exact ⟨false, fun z => (by cases z), fun z => (by cases z)⟩
  -- what is in the fragment, and what is a dict, is not the script
  have nK : ∀ {b : Addr} {o : Obj}, K.lookup b = some o → scr t a { cls := .type "list", data := .seq vs.toArray } ns b = none := fun {b o} h => scr_no fun ⟨h1, h2⟩ => by
    rw [h2, ht.mp h1] at h
    cases h
  have nD : ∀ {b : Addr} {o : Obj} {es : Array DictEntry} {ep : Nat}, sh.heap.get? b = some o → o.data = .dict es ep → scr t a { cls := .type "list", data := .seq vs.toArray } ns b = none := fun {b o es ep} h hd => scr_no fun ⟨_, h2⟩ => by
    rw [h2, ha] at h
    cases h
    cases hd
  have hok : HOk P w (scr t a { cls := .type "list", data := .seq vs.toArray } ns) sh.heap := fun b u h => by
    obtain ⟨_, rfl, rfl⟩ := scr_at h
    exact ⟨ha, by rw [List.length_map]; exact hl, vs, _, rv, ha⟩
  have hS : SqL K (scr t a { cls := .type "list", data := .seq vs.toArray } ns) a (ns.map V.int) := by
    cases hk : K.lookup a with
    | none => exact .inl (.inr ⟨_, if_pos ⟨ht.mpr hk, rfl⟩⟩)
    | some o =>
      have e := KX a o hk
      rw [ha] at e
      cases e
      exact .inr ⟨_, vs.toArray, _, hk, rfl, rfl, rfl, by rw [List.size_toArray, hlen]; exact hl, by simpa using rv⟩
  have kin : K.In (hidT sh.heap (scr t a { cls := .type "list", data := .seq vs.toArray } ns)) := fun b o h => hidT_get (KX b o h) (nK h)
  have nsx : ∀ {b : Addr} {m : Str → Option Value}, sh.heap.Ns b m → (hidT sh.heap (scr t a { cls := .type "list", data := .seq vs.toArray } ns)).Ns b m := fun ⟨o, es, ep, h, d, r⟩ => ⟨o, es, ep, hidT_get h (nD h d), d, r⟩
  generalize hH : scr t a { cls := .type "list", data := .seq vs.toArray } ns = H at *
  have e0 : Env0 P w K mg (hidT sh.heap H) callerA [] sh H :=
    ⟨rfl, ⟨kin, nsx hns, ⟨mb, nsx hb, hbb⟩, by obtain ⟨mc, h1, h2⟩ := hlim; exact ⟨mc, nsx h1, h2⟩⟩, fun b o h => of_hidT h, Nat.le_of_eq (hidT_size _ _), trivial, fun b z => (by cases z), hok, .of_eq hgn⟩
  refine codeAny_mono ((F _ kin (nsx hns)).run callerA [] sh H ⟨[.ref a], []⟩ [.ref a] [.ref a] _ _ rfl hr e0 (hbind sh (.ref a)) (.cons rfl .nil) (hsp H hS)) fun r s' h => ?_
  match r, h with
  | .error e, h => exact (hCX H e s' h).elim
  | .ok .next, h => exact h.elim
  | .ok .brk, h => exact h.elim
  | .ok .cont, h => exact h.elim
  | .ok (.ret u), h =>
    obtain ⟨v, H', os, bare, un, hok', ru, q⟩ := h
    obtain rfl : v = .bl true := q
    obtain rfl : u = Value.bool true := ru
    refine ⟨rfl, OldK.of_keep fun b o h => ?_, os, bare⟩
    cases hb' : H b with
    | none => exact un.keep b o h hb' (fun z => by cases z) (fun z => by cases z)
    | some uu =>
      have hb2 := hb'
      rw [← hH] at hb2
      obtain ⟨_, _, rfl⟩ := scr_at hb2
      obtain ⟨h1, _⟩ := hok b _ hb'
      obtain ⟨h2, _⟩ := hok' b _ (un.frzs b _ _ hb')
      rw [h] at h1
      cases h1
      exact h2
theorem walk_ofClr {l : PySem.W.OpenLaw} {n k : Nat} {q : Program} {loose : List Str} {XP : (Str → Option Value) → Heap → Prop} {YP : World → Heap → Prop} {d : DefRec} {K : Params → PySem.W.Frag} {CX : World → CXT} {sp : World → Sp} {x : Str}
    (hn : l.most = some n) (hn2 : n ≤ sizeLine) (hdf : d.params.defaults = []) (hr : Room k callerA) (hY : ∀ (w : World) (h : Heap), YP w h → (K w.params).In h)
    (F : ∀ (w : World) (mg : Str → Option Value) (fa : Addr) (h : Heap), (K w.params).In h → h.Ns mainGlobals mg → mg d.name = some (.ref fa) →
      ∃ fd : FuncData, (∀ (s : Shared) (u : Value), BindsTo s fd ⟨[u], []⟩ [(x, u)]) ∧ ∀ base : Heap, (K w.params).In base → base.Ns mainGlobals mg → FnClr l.prog w (K w.params) mg base (CX w) k fa fd [x] (sp w))
    (hsp : ∀ (w : World) (H : Hp) (a : Addr) (ns : List Int), ns.length ≤ n → SqL (K w.params) H a (ns.map V.int) → sp w [.ref a] H (fun v _ => v = .bl true) fun _ _ _ => False)
    (hCX : ∀ (w : World) (H : Hp) (s : Shared) (e : Value) (s' : Shared), CX w [] H s (fun _ _ _ => False) e s' → False) :
    PySem.W.WalkO q loose XP YP l.row.toRowW d [] (fun f vs => PySem.call f vs) := by
  refine Att.attach_call hn hdf fun w s0 sh mg mb fa o pm cd doc a vs ns G Y ho hd hcd hmg hobj hints hlen hgn => ?_
  obtain ⟨fd, hb, hF⟩ := F w mg fa _ (hY w _ Y) G.T.g hmg
  exact law_callClr (hY w _ Y) G.T.g G.T.b G.T.builtins G.T.nolimit hgn hobj hints (Nat.le_trans hlen hn2) hr hF hb (fun H hS => hsp w H a ns hlen hS) fun H e s' => hCX w H sh e s'
end L2

set_option Elab.async false
set_option linter.all false
set_option maxRecDepth 100000
set_option maxHeartbeats 4000000
/-! o[i], o an instance with an own __getitem__ -/
namespace L2
open PySem PySem.Spec PyProof.Rows
section
variable {X : Cx} {CX : CXT} {k : Nat} {C : Addr} {ps : List Str} {sp : Sp}
def rIxO (C : Addr) (sp : Sp) : R2 := fun x y H Q => ∃ a dx fs, x = .ref a ∧ H a = some (.ins C dx fs) ∧ sp [x, y] H Q E0
theorem pe_ixO {a b : Expr} {ta tb : TE} {pos : Pos} (O : OwnM X.prog X.w X.K X.mg X.base CX C "__getitem__" k ps sp) (hn : ∀ g, PySem.W.findIn X.K (.ref C) "__getitem__" = some (some (.ref g)) → PySem.W.fnIn X.K g = true) (hr : Room (k + 1) X.A) (hx : Passes CX X E0) (ha : PE X a ta) (hb : PE X b tb)
    (hs : ∀ o i, subscripted b true o i = runValue (.builtin "lifetime.subscript" ⟨[o, i], []⟩)) : PE X (.Subscript a b pos) (tOp (rIxO C sp) ta tb) := by
  refine ⟨fun pins s σ H Q I h => ?_⟩
  refine Subscript_ (binT ha hb I h fun v u s2 x y H2 I2 rx ry hq => ?_)
  obtain ⟨f, fd, F, M, hi, hbd⟩ := O.ex
  obtain ⟨o, dx, fs, rfl, ho, q⟩ := hq
  cases (show v = Value.ref o from rx)
  obtain ⟨mA, J, _⟩ := ins_get I2.hok ho
  obtain ⟨od, J, _⟩ := J.look
  obtain ⟨m, hF⟩ := I2.fr
  refine PySem.W.sub_K hF I2.ok.mod.kin J M.at_ (hn f M.at_) hi ?_ (hs _ _)
  exact run_at (vs := [.ref o, y]) F hr.in1 rfl hbd hx I2 (.cons rfl (.cons ry .nil)) q
end
end L2

set_option Elab.async false
set_option linter.all false
set_option maxRecDepth 100000
/-! len of a set of ints and texts -/
namespace L2
open PySem PySem.Spec PyProof.Rows
def rLenSetK (P : Program) (w : World) : List V → Hp → VK → Prop := fun xs H Q => ∃ (a : Addr) (S : Key → Bool) (n : Nat), xs = [.ref a] ∧ H a = some (SetK P w a S n) ∧ n ≤ 1000 ∧ Q (.int n) H
theorem cr_lenSetK {X : Cx} : CallR X (.builtin "len") (rLenSetK X.prog X.w) := by
  intro pins s σ H xs us Q I r h
  obtain ⟨a, S, n, rfl, ha, h64, q⟩ := h
  have R := setK_get I ha
  rw [Vals.ref1 r]
  obtain ⟨o, es, ep, t, ho, hex, hd, _, _, _, hf, hn⟩ := R
  exact call_len_set ho hex hd hf (by rw [hn]; omega) ⟨.int n, H, I.tok _, ⟨_, by rw [hn]⟩, q⟩
end L2

set_option Elab.async false
set_option maxRecDepth 100000
set_option maxHeartbeats 4000000
namespace K02
open PySem PySem.Spec PyProof.Rows L2
def top (i : Nat) : Stmt := PySem.Challenge.pw_wholeline_k05_whole_lengths.main.body.getD i (.Pass ⟨0, 0, 0, 0⟩)
abbrev s_BadPart_init : Stmt := inClass (top 3) 0
abbrev nm_BadPart_init : List Str := ["self", "part"]
abbrev pm_BadPart_init : List Str := ["self", "part"]
theorem sc_BadPart_init : FnScope nm_BadPart_init pm_BadPart_init (defScope s_BadPart_init) := ⟨rfl, rfl, rfl, by decide +kernel, rfl, by decide +kernel, by decide +kernel⟩

abbrev s_BadIndex_init : Stmt := inClass (top 4) 0
abbrev nm_BadIndex_init : List Str := ["self", "index"]
abbrev pm_BadIndex_init : List Str := ["self", "index"]
theorem sc_BadIndex_init : FnScope nm_BadIndex_init pm_BadIndex_init (defScope s_BadIndex_init) := ⟨rfl, rfl, rfl, by decide +kernel, rfl, by decide +kernel, by decide +kernel⟩

abbrev s_BadRow_init : Stmt := inClass (top 5) 0
abbrev nm_BadRow_init : List Str := ["self", "index"]
abbrev pm_BadRow_init : List Str := ["self", "index"]
theorem sc_BadRow_init : FnScope nm_BadRow_init pm_BadRow_init (defScope s_BadRow_init) := ⟨rfl, rfl, rfl, by decide +kernel, rfl, by decide +kernel, by decide +kernel⟩

abbrev s_BadLetter_init : Stmt := inClass (top 6) 0
abbrev nm_BadLetter_init : List Str := ["self", "spot"]
abbrev pm_BadLetter_init : List Str := ["self", "spot"]
theorem sc_BadLetter_init : FnScope nm_BadLetter_init pm_BadLetter_init (defScope s_BadLetter_init) := ⟨rfl, rfl, rfl, by decide +kernel, rfl, by decide +kernel, by decide +kernel⟩

abbrev s_BadHead_init : Stmt := inClass (top 7) 0
abbrev nm_BadHead_init : List Str := ["self", "index"]
abbrev pm_BadHead_init : List Str := ["self", "index"]
theorem sc_BadHead_init : FnScope nm_BadHead_init pm_BadHead_init (defScope s_BadHead_init) := ⟨rfl, rfl, rfl, by decide +kernel, rfl, by decide +kernel, by decide +kernel⟩

abbrev s_TooMany_init : Stmt := inClass (top 8) 0
abbrev nm_TooMany_init : List Str := ["self", "limit"]
abbrev pm_TooMany_init : List Str := ["self", "limit"]
theorem sc_TooMany_init : FnScope nm_TooMany_init pm_TooMany_init (defScope s_TooMany_init) := ⟨rfl, rfl, rfl, by decide +kernel, rfl, by decide +kernel, by decide +kernel⟩

abbrev s_is_integer : Stmt := top 11
abbrev nm_is_integer : List Str := ["value"]
abbrev pm_is_integer : List Str := ["value"]
theorem sc_is_integer : FnScope nm_is_integer pm_is_integer (defScope s_is_integer) := ⟨rfl, rfl, rfl, by decide +kernel, rfl, by decide +kernel, by decide +kernel⟩

abbrev s_is_between : Stmt := top 12
abbrev nm_is_between : List Str := ["value", "low", "high"]
abbrev pm_is_between : List Str := ["value", "low", "high"]
theorem sc_is_between : FnScope nm_is_between pm_is_between (defScope s_is_between) := ⟨rfl, rfl, rfl, by decide +kernel, rfl, by decide +kernel, by decide +kernel⟩

abbrev s_is_index : Stmt := top 13
abbrev nm_is_index : List Str := ["value", "many"]
abbrev pm_is_index : List Str := ["value", "many"]
theorem sc_is_index : FnScope nm_is_index pm_is_index (defScope s_is_index) := ⟨rfl, rfl, rfl, by decide +kernel, rfl, by decide +kernel, by decide +kernel⟩

abbrev s_is_list : Stmt := top 14
abbrev nm_is_list : List Str := ["value"]
abbrev pm_is_list : List Str := ["value"]
theorem sc_is_list : FnScope nm_is_list pm_is_list (defScope s_is_list) := ⟨rfl, rfl, rfl, by decide +kernel, rfl, by decide +kernel, by decide +kernel⟩

abbrev s_is_name : Stmt := top 15
abbrev nm_is_name : List Str := ["value", "sign"]
abbrev pm_is_name : List Str := ["value"]
theorem sc_is_name : FnScope nm_is_name pm_is_name (defScope s_is_name) := ⟨rfl, rfl, rfl, by decide +kernel, rfl, by decide +kernel, by decide +kernel⟩

abbrev s_is_tuple_of : Stmt := top 16
abbrev nm_is_tuple_of : List Str := ["value", "many"]
abbrev pm_is_tuple_of : List Str := ["value", "many"]
theorem sc_is_tuple_of : FnScope nm_is_tuple_of pm_is_tuple_of (defScope s_is_tuple_of) := ⟨rfl, rfl, rfl, by decide +kernel, rfl, by decide +kernel, by decide +kernel⟩

abbrev s_is_letter : Stmt := top 22
abbrev nm_is_letter : List Str := ["value", "heads", "body", "head"]
abbrev pm_is_letter : List Str := ["value"]
theorem sc_is_letter : FnScope nm_is_letter pm_is_letter (defScope s_is_letter) := ⟨rfl, rfl, rfl, by decide +kernel, rfl, by decide +kernel, by decide +kernel⟩

abbrev s_check_heads : Stmt := top 23
abbrev nm_check_heads : List Str := ["heads", "index", "head"]
abbrev pm_check_heads : List Str := ["heads"]
theorem sc_check_heads : FnScope nm_check_heads pm_check_heads (defScope s_check_heads) := ⟨rfl, rfl, rfl, by decide +kernel, rfl, by decide +kernel, by decide +kernel⟩

abbrev s_check_row : Stmt := top 24
abbrev nm_check_row : List Str := ["at", "row", "index", "letter"]
abbrev pm_check_row : List Str := ["at", "row"]
theorem sc_check_row : FnScope nm_check_row pm_check_row (defScope s_check_row) := ⟨rfl, rfl, rfl, by decide +kernel, rfl, by decide +kernel, by decide +kernel⟩

abbrev s_Mail_init : Stmt := inClass (top 25) 0
abbrev nm_Mail_init : List Str := ["self", "rows", "at", "row", "letter"]
abbrev pm_Mail_init : List Str := ["self", "rows"]
theorem sc_Mail_init : FnScope nm_Mail_init pm_Mail_init (defScope s_Mail_init) := ⟨rfl, rfl, rfl, by decide +kernel, rfl, by decide +kernel, by decide +kernel⟩

abbrev s_Mail_letters_told : Stmt := inClass (top 25) 2
abbrev nm_Mail_letters_told : List Str := ["self"]
abbrev pm_Mail_letters_told : List Str := ["self"]
theorem sc_Mail_letters_told : FnScope nm_Mail_letters_told pm_Mail_letters_told (defScope s_Mail_letters_told) := ⟨rfl, rfl, rfl, by decide +kernel, rfl, by decide +kernel, by decide +kernel⟩

abbrev s_Mail_heads_told : Stmt := inClass (top 25) 3
abbrev nm_Mail_heads_told : List Str := ["self", "letter", "head"]
abbrev pm_Mail_heads_told : List Str := ["self"]
theorem sc_Mail_heads_told : FnScope nm_Mail_heads_told pm_Mail_heads_told (defScope s_Mail_heads_told) := ⟨rfl, rfl, rfl, by decide +kernel, rfl, by decide +kernel, by decide +kernel⟩

abbrev s_Mail_len : Stmt := inClass (top 25) 6
abbrev nm_Mail_len : List Str := ["self"]
abbrev pm_Mail_len : List Str := ["self"]
theorem sc_Mail_len : FnScope nm_Mail_len pm_Mail_len (defScope s_Mail_len) := ⟨rfl, rfl, rfl, by decide +kernel, rfl, by decide +kernel, by decide +kernel⟩

abbrev s_Mail_getitem : Stmt := inClass (top 25) 7
abbrev nm_Mail_getitem : List Str := ["self", "at"]
abbrev pm_Mail_getitem : List Str := ["self", "at"]
theorem sc_Mail_getitem : FnScope nm_Mail_getitem pm_Mail_getitem (defScope s_Mail_getitem) := ⟨rfl, rfl, rfl, by decide +kernel, rfl, by decide +kernel, by decide +kernel⟩

abbrev s_Mail_iter : Stmt := inClass (top 25) 8
abbrev nm_Mail_iter : List Str := ["self"]
abbrev pm_Mail_iter : List Str := ["self"]
theorem sc_Mail_iter : FnScope nm_Mail_iter pm_Mail_iter (defScope s_Mail_iter) := ⟨rfl, rfl, rfl, by decide +kernel, rfl, by decide +kernel, by decide +kernel⟩

abbrev s_Mail_eq : Stmt := inClass (top 25) 9
abbrev nm_Mail_eq : List Str := ["self", "other"]
abbrev pm_Mail_eq : List Str := ["self", "other"]
theorem sc_Mail_eq : FnScope nm_Mail_eq pm_Mail_eq (defScope s_Mail_eq) := ⟨rfl, rfl, rfl, by decide +kernel, rfl, by decide +kernel, by decide +kernel⟩

abbrev s_check_places : Stmt := top 28
abbrev nm_check_places : List Str := ["places"]
abbrev pm_check_places : List Str := ["places"]
theorem sc_check_places : FnScope nm_check_places pm_check_places (defScope s_check_places) := ⟨rfl, rfl, rfl, by decide +kernel, rfl, by decide +kernel, by decide +kernel⟩

abbrev s_check_mail : Stmt := top 30
abbrev nm_check_mail : List Str := ["mail"]
abbrev pm_check_mail : List Str := ["mail"]
theorem sc_check_mail : FnScope nm_check_mail pm_check_mail (defScope s_check_mail) := ⟨rfl, rfl, rfl, by decide +kernel, rfl, by decide +kernel, by decide +kernel⟩

abbrev s_check_cost : Stmt := top 31
abbrev nm_check_cost : List Str := ["cost"]
abbrev pm_check_cost : List Str := ["cost"]
theorem sc_check_cost : FnScope nm_check_cost pm_check_cost (defScope s_check_cost) := ⟨rfl, rfl, rfl, by decide +kernel, rfl, by decide +kernel, by decide +kernel⟩

abbrev s_distances : Stmt := top 32
abbrev nm_distances : List Str := ["heads", "index"]
abbrev pm_distances : List Str := ["heads"]
theorem sc_distances : FnScope nm_distances pm_distances (defScope s_distances) := ⟨rfl, rfl, rfl, by decide +kernel, rfl, by decide +kernel, by decide +kernel⟩

abbrev s_distance_at : Stmt := top 33
abbrev nm_distance_at : List Str := ["heads", "index", "between", "head"]
abbrev pm_distance_at : List Str := ["heads", "index"]
theorem sc_distance_at : FnScope nm_distance_at pm_distance_at (defScope s_distance_at) := ⟨rfl, rfl, rfl, by decide +kernel, rfl, by decide +kernel, by decide +kernel⟩

abbrev s_shorts : Stmt := top 34
abbrev nm_shorts : List Str := ["heads", "places", "distance"]
abbrev pm_shorts : List Str := ["heads", "places"]
theorem sc_shorts : FnScope nm_shorts pm_shorts (defScope s_shorts) := ⟨rfl, rfl, rfl, by decide +kernel, rfl, by decide +kernel, by decide +kernel⟩

abbrev s_is_near : Stmt := top 35
abbrev nm_is_near : List Str := ["distance", "places"]
abbrev pm_is_near : List Str := ["distance", "places"]
theorem sc_is_near : FnScope nm_is_near pm_is_near (defScope s_is_near) := ⟨rfl, rfl, rfl, by decide +kernel, rfl, by decide +kernel, by decide +kernel⟩

abbrev s_letter_lengths : Stmt := top 36
abbrev nm_letter_lengths : List Str := ["mail", "places", "cost", "costs", "lengths", "first", "heads", "body", "short"]
abbrev pm_letter_lengths : List Str := ["mail", "places", "cost"]
theorem sc_letter_lengths : FnScope nm_letter_lengths pm_letter_lengths (defScope s_letter_lengths) := ⟨rfl, rfl, rfl, by decide +kernel, rfl, by decide +kernel, by decide +kernel⟩

abbrev s_places_for : Stmt := top 37
abbrev nm_places_for : List Str := ["mail", "cost", "most", "places", "length"]
abbrev pm_places_for : List Str := ["mail", "cost", "most"]
theorem sc_places_for : FnScope nm_places_for pm_places_for (defScope s_places_for) := ⟨rfl, rfl, rfl, by decide +kernel, rfl, by decide +kernel, by decide +kernel⟩

abbrev s__law_pool : Stmt := top 39
abbrev nm__law_pool : List Str := ["_law_script", "_law_k", "_law_cell", "_law_size", "_law_mixed"]
abbrev pm__law_pool : List Str := ["_law_script", "_law_k"]
theorem sc__law_pool : FnScope nm__law_pool pm__law_pool (defScope s__law_pool) := ⟨rfl, rfl, rfl, by decide +kernel, rfl, by decide +kernel, by decide +kernel⟩

abbrev s__law_draw : Stmt := top 40
abbrev nm__law_draw : List Str := ["_law_pool_here", "_law_many", "_law_found"]
abbrev pm__law_draw : List Str := ["_law_pool_here", "_law_many"]
theorem sc__law_draw : FnScope nm__law_draw pm__law_draw (defScope s__law_draw) := ⟨rfl, rfl, rfl, by decide +kernel, rfl, by decide +kernel, by decide +kernel⟩

abbrev s__law_pick : Stmt := top 41
abbrev nm__law_pick : List Str := ["_law_pool_here", "_law_row"]
abbrev pm__law_pick : List Str := ["_law_pool_here", "_law_row"]
theorem sc__law_pick : FnScope nm__law_pick pm__law_pick (defScope s__law_pick) := ⟨rfl, rfl, rfl, by decide +kernel, rfl, by decide +kernel, by decide +kernel⟩

abbrev s__law_heads : Stmt := top 42
abbrev nm__law_heads : List Str := ["_law_pool_here", "_law_many", "_law_names", "_law_turn"]
abbrev pm__law_heads : List Str := ["_law_pool_here", "_law_many", "_law_names"]
theorem sc__law_heads : FnScope nm__law_heads pm__law_heads (defScope s__law_heads) := ⟨rfl, rfl, rfl, by decide +kernel, rfl, by decide +kernel, by decide +kernel⟩

abbrev s__law_used : Stmt := top 43
abbrev nm__law_used : List Str := ["_law_slots", "_law_order", "_law_head", "_law_place"]
abbrev pm__law_used : List Str := ["_law_slots", "_law_order", "_law_head"]
theorem sc__law_used : FnScope nm__law_used pm__law_used (defScope s__law_used) := ⟨rfl, rfl, rfl, by decide +kernel, rfl, by decide +kernel, by decide +kernel⟩

abbrev s__law_shorts : Stmt := top 44
abbrev nm__law_shorts : List Str := ["_law_heads_here", "_law_places", "_law_slots", "_law_order", "_law_found", "_law_head"]
abbrev pm__law_shorts : List Str := ["_law_heads_here", "_law_places"]
theorem sc__law_shorts : FnScope nm__law_shorts pm__law_shorts (defScope s__law_shorts) := ⟨rfl, rfl, rfl, by decide +kernel, rfl, by decide +kernel, by decide +kernel⟩

abbrev s__law_distances : Stmt := top 45
abbrev nm__law_distances : List Str := ["_law_heads_here", "_law_found", "_law_at", "_law_head", "_law_ahead", "_law_between", "_law_index", "_law_one"]
abbrev pm__law_distances : List Str := ["_law_heads_here"]
theorem sc__law_distances : FnScope nm__law_distances pm__law_distances (defScope s__law_distances) := ⟨rfl, rfl, rfl, by decide +kernel, rfl, by decide +kernel, by decide +kernel⟩

abbrev s__law_joined : Stmt := top 46
abbrev nm__law_joined : List Str := ["_law_some", "_law_found", "_law_one"]
abbrev pm__law_joined : List Str := ["_law_some"]
theorem sc__law_joined : FnScope nm__law_joined pm__law_joined (defScope s__law_joined) := ⟨rfl, rfl, rfl, by decide +kernel, rfl, by decide +kernel, by decide +kernel⟩

abbrev s__law_lengths : Stmt := top 47
abbrev nm__law_lengths : List Str := ["_law_letters", "_law_places", "_law_cost", "_law_told", "_law_found", "_law_at", "_law_heads_here", "_law_body", "_law_letter", "_law_index"]
abbrev pm__law_lengths : List Str := ["_law_letters", "_law_places", "_law_cost"]
theorem sc__law_lengths : FnScope nm__law_lengths pm__law_lengths (defScope s__law_lengths) := ⟨rfl, rfl, rfl, by decide +kernel, rfl, by decide +kernel, by decide +kernel⟩

abbrev s__law_called : Stmt := top 48
abbrev nm__law_called : List Str := ["_law_door", "_law_one", "_law_other", "_law_third"]
abbrev pm__law_called : List Str := ["_law_door", "_law_one", "_law_other", "_law_third"]
theorem sc__law_called : FnScope nm__law_called pm__law_called (defScope s__law_called) := ⟨rfl, rfl, rfl, by decide +kernel, rfl, by decide +kernel, by decide +kernel⟩

abbrev s__law_refused : Stmt := top 49
abbrev nm__law_refused : List Str := ["_law_door", "_law_one", "_law_other", "_law_third", "e"]
abbrev pm__law_refused : List Str := ["_law_door", "_law_one", "_law_other", "_law_third"]
theorem sc__law_refused : FnScope nm__law_refused pm__law_refused (defScope s__law_refused) := ⟨rfl, rfl, rfl, by decide +kernel, rfl, by decide +kernel, by decide +kernel⟩

abbrev s__law_odds_refused : Stmt := top 50
abbrev nm__law_odds_refused : List Str := ["_law_mail", "_law_heads_here", "_law_odd", "_law_door"]
abbrev pm__law_odds_refused : List Str := ["_law_mail", "_law_heads_here"]
theorem sc__law_odds_refused : FnScope nm__law_odds_refused pm__law_odds_refused (defScope s__law_odds_refused) := ⟨rfl, rfl, rfl, by decide +kernel, rfl, by decide +kernel, by decide +kernel⟩

abbrev s__law_places_right : Stmt := top 51
abbrev nm__law_places_right : List Str := ["_law_mail", "_law_letters", "_law_heads_here", "_law_cost", "_law_most", "_law_short", "_law_at", "_law_enough", "_law_places", "_law_one", "_law_other"]
abbrev pm__law_places_right : List Str := ["_law_mail", "_law_letters", "_law_heads_here", "_law_cost", "_law_most"]
theorem sc__law_places_right : FnScope nm__law_places_right pm__law_places_right (defScope s__law_places_right) := ⟨rfl, rfl, rfl, by decide +kernel, rfl, by decide +kernel, by decide +kernel⟩

abbrev s_law : Stmt := top 52
abbrev nm_law : List Str := ["_law_script", "_law_pool_here", "_law_rows", "_law_names", "_law_row", "_law_sizes", "_law_letters", "_law_cost", "_law_places", "_law_mail", "_law_heads_here", "_law_told", "_law_due", "_law_lengths_here", "_law_most", "_law_at", "_law_size", "_law_letter", "_law_one"]
abbrev pm_law : List Str := ["_law_script"]
theorem sc_law : FnScope nm_law pm_law (defScope s_law) := ⟨rfl, rfl, rfl, by decide +kernel, rfl, by decide +kernel, by decide +kernel⟩

structure Ad where
  (BadPart BadRow BadLetter BadIndex BadHead TooMany WholeError Mail : Addr)
structure Txt (K : PySem.W.Frag) (mg : Str → Option Value) (A : Ad) : Prop where
  n_isinstance : mg "isinstance" = none
  n_int : mg "int" = none
  n_bool : mg "bool" = none
  n_str : mg "str" = none
  n_list : mg "list" = none
  n_tuple : mg "tuple" = none
  n_len : mg "len" = none
  n_range : mg "range" = none
  n_enumerate : mg "enumerate" = none
  n_all : mg "all" = none
  n_abs : mg "abs" = none
  n_sum : mg "sum" = none
  n_repr : mg "repr" = none
  g_MOST_PLACES : ∃ t, mg "MOST_PLACES" = some (.int 4 t)
  g_MOST_HEADS : ∃ t, mg "MOST_HEADS" = some (.int 4 t)
  g_MOST_BODY : ∃ t, mg "MOST_BODY" = some (.int 60 t)
  g_MOST_LETTERS : ∃ t, mg "MOST_LETTERS" = some (.int 6 t)
  g_MOST_ROWS : ∃ t, mg "MOST_ROWS" = some (.int 3 t)
  g_ALPHABET : ∃ t, mg "ALPHABET" = some (.str "abcdefghijklmnopqrstuvwxyz" t)
  Mail : ClsX K mg "Mail" A.Mail
  m_rows : NoAttr K A.Mail "rows"
  m_letters : NoAttr K A.Mail "letters"
  BadPart : XAt K mg "BadPart" "part" A.BadPart s_BadPart_init "BadPart.__init__"
  BadRow : XAt K mg "BadRow" "index" A.BadRow s_BadRow_init "BadRow.__init__"
  BadLetter : XAt K mg "BadLetter" "spot" A.BadLetter s_BadLetter_init "BadLetter.__init__"
  BadIndex : XAt K mg "BadIndex" "index" A.BadIndex s_BadIndex_init "BadIndex.__init__"
  TooMany : XOt K mg "TooMany" "limit" A.TooMany s_TooMany_init "TooMany.__init__"
  c_get : ∀ g, PySem.W.findIn K (.ref A.Mail) "__getitem__" = some (some (.ref g)) → PySem.W.fnIn K g = true
  BadHead : XAt K mg "BadHead" "index" A.BadHead s_BadHead_init "BadHead.__init__"
  x_hh : PySem.W.exmOne K (.ref A.BadHead) (.ref A.BadHead) = some true
  x_ph : PySem.W.exmOne K (.ref A.BadPart) (.ref A.BadHead) = some false
  x_pp : PySem.W.exmOne K (.ref A.BadPart) (.ref A.BadPart) = some true
  n_set : mg "set" = none
  n_dict : mg "dict" = none
  n_zip : mg "zip" = none
  n_max : mg "max" = none
theorem pe_gstr {X : Cx} {x : Str} {z : Str} {pos : Pos} (hm : ∃ t, X.mg x = some (.str z t)) (hg : Gl X x := by rfl) (hd : (x == ("__debug__" : Str)) = false := by decide) : PE X (.Name x pos) (tC (.str z)) := by
  obtain ⟨t, h⟩ := hm
  exact pe_glob hg h ⟨_, rfl⟩ hd
section
variable {P : Program} {w : World} {K : PySem.W.Frag} {mg : Str → Option Value} {base : Heap} {A : Ad}
theorem ok_xp {f : Addr} {fd : FuncData} (F : Fun K "__init__" "BadPart.__init__" s_BadPart_init f fd) (T : Txt K mg A) : FnOk P w K mg base CX0 1 f fd ["self", "part"] (spXI A.BadPart "part") := by
  refine F.ok sc_BadPart_init (fun vs H Q E h => ?_) (fun cdv A' outer s H vs Q E hr h => ?_)
  · obtain ⟨a, y, rfl, _⟩ := h
    rfl
  · obtain ⟨a, y, rfl, ha, q⟩ := h
    refine ⟨_, pss_one (ps_ost (pv 0) (pv 1)), ?_⟩
    exact ⟨_, rfl, _, rfl, a, A.BadPart, rfl, T.BadPart.ox, T.BadPart.noA, .inl ⟨ha, fun dx h1 h2 => q dx h1 h2⟩⟩
theorem ok_x_BadRow {f : Addr} {fd : FuncData} (F : Fun K "__init__" "BadRow.__init__" s_BadRow_init f fd) (T : Txt K mg A) : FnOk P w K mg base CX0 1 f fd ["self", "index"] (spXI A.BadRow "index") := by
  refine F.ok sc_BadRow_init (fun vs H Q E h => ?_) (fun cdv A' outer s H vs Q E hr h => ?_)
  · obtain ⟨a, y, rfl, _⟩ := h
    rfl
  · obtain ⟨a, y, rfl, ha, q⟩ := h
    refine ⟨_, pss_one (ps_ost (pv 0) (pv 1)), ?_⟩
    exact ⟨_, rfl, _, rfl, a, A.BadRow, rfl, T.BadRow.ox, T.BadRow.noA, .inl ⟨ha, fun dx h1 h2 => q dx h1 h2⟩⟩
theorem ok_x_BadLetter {f : Addr} {fd : FuncData} (F : Fun K "__init__" "BadLetter.__init__" s_BadLetter_init f fd) (T : Txt K mg A) : FnOk P w K mg base CX0 1 f fd ["self", "spot"] (spXI A.BadLetter "spot") := by
  refine F.ok sc_BadLetter_init (fun vs H Q E h => ?_) (fun cdv A' outer s H vs Q E hr h => ?_)
  · obtain ⟨a, y, rfl, _⟩ := h
    rfl
  · obtain ⟨a, y, rfl, ha, q⟩ := h
    refine ⟨_, pss_one (ps_ost (pv 0) (pv 1)), ?_⟩
    exact ⟨_, rfl, _, rfl, a, A.BadLetter, rfl, T.BadLetter.ox, T.BadLetter.noA, .inl ⟨ha, fun dx h1 h2 => q dx h1 h2⟩⟩
theorem ok_x_BadIndex {f : Addr} {fd : FuncData} (F : Fun K "__init__" "BadIndex.__init__" s_BadIndex_init f fd) (T : Txt K mg A) : FnOk P w K mg base CX0 1 f fd ["self", "index"] (spXI A.BadIndex "index") := by
  refine F.ok sc_BadIndex_init (fun vs H Q E h => ?_) (fun cdv A' outer s H vs Q E hr h => ?_)
  · obtain ⟨a, y, rfl, _⟩ := h
    rfl
  · obtain ⟨a, y, rfl, ha, q⟩ := h
    refine ⟨_, pss_one (ps_ost (pv 0) (pv 1)), ?_⟩
    exact ⟨_, rfl, _, rfl, a, A.BadIndex, rfl, T.BadIndex.ox, T.BadIndex.noA, .inl ⟨ha, fun dx h1 h2 => q dx h1 h2⟩⟩
theorem ok_x_BadHead {f : Addr} {fd : FuncData} (F : Fun K "__init__" "BadHead.__init__" s_BadHead_init f fd) (T : Txt K mg A) : FnOk P w K mg base CX0 1 f fd ["self", "index"] (spXI A.BadHead "index") := by
  refine F.ok sc_BadHead_init (fun vs H Q E h => ?_) (fun cdv A' outer s H vs Q E hr h => ?_)
  · obtain ⟨a, y, rfl, _⟩ := h
    rfl
  · obtain ⟨a, y, rfl, ha, q⟩ := h
    refine ⟨_, pss_one (ps_ost (pv 0) (pv 1)), ?_⟩
    exact ⟨_, rfl, _, rfl, a, A.BadHead, rfl, T.BadHead.ox, T.BadHead.noA, .inl ⟨ha, fun dx h1 h2 => q dx h1 h2⟩⟩
theorem ok_x_TooMany {f : Addr} {fd : FuncData} (F : Fun K "__init__" "TooMany.__init__" s_TooMany_init f fd) (T : Txt K mg A) : FnOk P w K mg base CX0 1 f fd ["self", "limit"] (spXI A.TooMany "limit") := by
  refine F.ok sc_TooMany_init (fun vs H Q E h => ?_) (fun cdv A' outer s H vs Q E hr h => ?_)
  · obtain ⟨a, y, rfl, _⟩ := h
    rfl
  · obtain ⟨a, y, rfl, ha, q⟩ := h
    refine ⟨_, pss_one (ps_ostO (pv 0) (pv 1)), ?_⟩
    exact ⟨_, rfl, _, rfl, a, A.TooMany, rfl, T.TooMany.ox, T.TooMany.noA, ha, fun dx h1 h2 => q dx h1 h2⟩

/-! kinds, told by the data -/
theorem kd_str {d : PyData} : PySem.W.kitOne K (.type (tnD d)) (.type "str") = some (isStrD d) := by cases d <;> exact kit_ty (by dsimp only [tnD, isStrD]; decide +kernel)
def spInteger (K : PySem.W.Frag) : Sp := fun vs H Q _ => ∃ v d, vs = [v] ∧ Dp K H v d ∧ Q (.bl (isIntD d && !isBoolD d)) H
theorem ok_integer {f : Addr} {fd : FuncData} (F : Fun K "is_integer" "is_integer" s_is_integer f fd) (T : Txt K mg A) : FnOk P w K mg base CX0 1 f fd pm_is_integer (spInteger K) := by
  refine F.ok sc_is_integer (fun vs H Q E h => ?_) (fun cdv A' outer s H vs Q E hr h => ?_)
  · obtain ⟨v, k, rfl, _⟩ := h
    rfl
  · obtain ⟨v, d, rfl, hk, q⟩ := h
    refine ⟨_, pss_one (ps_ret (pe_and (pe_callB call_isi (by rfl) T.n_isinstance (by decide +kernel) (pa_cons (pv 0) (pa_cons (pe_bltn (v := .ty "int") (by rfl) T.n_int (by decide +kernel) rfl) pa_nil))) (pe_one (pe_not (pe_callB call_isi (by rfl) T.n_isinstance (by decide +kernel) (pa_cons (pv 0) (pa_cons (pe_bltn (v := .ty "bool") (by rfl) T.n_bool (by decide +kernel) rfl) pa_nil))))))), ?_⟩
    refine ⟨v, rfl, v, .ty "int", .type (tnD d), .type "int", isIntD d, rfl, .ty _, dp_ty hk, kd_int, _, rfl, ?_⟩
    cases h1 : isIntD d with
    | true =>
      rw [h1] at q
      exact iteT ⟨v, rfl, v, .ty "bool", .type (tnD d), .type "bool", isBoolD d, rfl, .ty _, dp_ty hk, kd_bool, _, rfl, q⟩
    | false =>
      rw [h1] at q
      exact iteF q
def spBetween (K : PySem.W.Frag) : Sp := fun vs H Q _ => ∃ v d a b, vs = [v, .int a, .int b] ∧ Dp K H v d ∧ Q (.bl (betD d a b)) H
theorem ok_between {f : Addr} {fd : FuncData} (F : Fun K "is_between" "is_between" s_is_between f fd) (O_is_integer : Own P w K mg base CX0 "is_integer" 1 pm_is_integer (spInteger K)) : FnOk P w K mg base CX0 2 f fd pm_is_between (spBetween K) := by
  refine F.ok sc_is_between (fun vs H Q E h => ?_) (fun cdv A' outer s H vs Q E hr h => ?_)
  · obtain ⟨v, k, a, b, rfl, _⟩ := h
    rfl
  · obtain ⟨v, d, a, b, rfl, hk, q⟩ := h
    refine ⟨_, pss_one (ps_ret (pe_and (pe_own O_is_integer (hr.mono (by decide)) pass0 (pa_cons (pv 0) pa_nil)) (pe_one (pe_chain op_le op_le (pv 1) (pv 0) (pv 2))))), ?_⟩
    refine ⟨v, rfl, v, d, rfl, hk, _, rfl, ?_⟩
    cases h1 : (isIntD d && !isBoolD d) with
    | true =>
      obtain ⟨n, rfl⟩ := int_yes h1
      obtain rfl := dp_int hk
      refine iteT ⟨_, rfl, _, rfl, _, _, rfl, rfl, _, rfl, ?_⟩
      rw [bet_int] at q
      cases h2 : decide (a ≤ n) with
      | true =>
        rw [h2] at q
        exact iteT ⟨_, rfl, _, _, rfl, rfl, q⟩
      | false =>
        rw [h2] at q
        exact iteF q
    | false =>
      rw [bet_not h1] at q
      exact iteF q
def spIndex (K : PySem.W.Frag) : Sp := fun vs H Q _ => ∃ v d n, vs = [v, .int n] ∧ Dp K H v d ∧ Q (.bl (betD d 0 (n - 1))) H
theorem ok_index {f : Addr} {fd : FuncData} (F : Fun K "is_index" "is_index" s_is_index f fd) (O_is_between : Own P w K mg base CX0 "is_between" 2 pm_is_between (spBetween K)) : FnOk P w K mg base CX0 3 f fd pm_is_index (spIndex K) := by
  refine F.ok sc_is_index (fun vs H Q E h => ?_) (fun cdv A' outer s H vs Q E hr h => ?_)
  · obtain ⟨_, _, _, rfl, _⟩ := h
    rfl
  · obtain ⟨v, d, n, rfl, hd, q⟩ := h
    refine ⟨_, pss_one (ps_ret (pe_own O_is_between (hr.mono (by decide)) pass0 (pa_cons (pv 0) (pa_cons (pe_int) (pa_cons (pe_op op_sub (pv 1) (pe_int)) pa_nil))))), ?_⟩
    exact ⟨v, rfl, _, rfl, _, _, rfl, rfl, v, d, 0, n - 1, rfl, hd, q⟩
def spIsList (K : PySem.W.Frag) : Sp := fun vs H Q _ => ∃ v t k, vs = [v] ∧ (∀ H', Ext H H' → TyX K H' v t) ∧ PySem.W.kitAny K t [.type "list", .type "tuple"] = some k ∧ ∀ H', Ext H H' → Q (.bl k) H'
theorem ok_isList {f : Addr} {fd : FuncData} (F : Fun K "is_list" "is_list" s_is_list f fd) (T : Txt K mg A) : FnOk P w K mg base CX0 1 f fd pm_is_list (spIsList K) := by
  refine F.ok sc_is_list (fun vs H Q E h => ?_) (fun cdv A' outer s H vs Q E hr h => ?_)
  · obtain ⟨v, t, k, rfl, _⟩ := h
    rfl
  · obtain ⟨v, t, k, rfl, hk, hs, q⟩ := h
    refine ⟨_, pss_one (ps_ret (pe_callB call_isiT (by rfl) T.n_isinstance (by decide +kernel) (pa_cons (pv 0) (pa_cons (pe_tup (pa_cons (pe_bltn (v := .ty "list") (by rfl) T.n_list (by decide +kernel) rfl) (pa_cons (pe_bltn (v := .ty "tuple") (by rfl) T.n_tuple (by decide +kernel) rfl) pa_nil))) pa_nil)))), ?_⟩
    refine ⟨v, rfl, by show 2 ≤ sizeLine; decide, fun p hp => ?_⟩
    exact ⟨v, p, [.ty "list", .ty "tuple"], t, [.type "list", .type "tuple"], k, rfl, upd_same, .cons (.ty _) (.cons (.ty _) .nil), hk _ (Ext.upd hp), hs, q _ (Ext.upd hp)⟩
theorem dp_lenD {H : Hp} {xs : List V} {ds : List PyData} {d : PyData} (ha : DpAll K H xs ds) (h : d = .list ds ∨ d = .tuple ds) : lenD d = xs.length := by
  rw [dps_len ha]
  rcases h with rfl | rfl <;> rfl
theorem dvi {a b : Int} : decide (V.int a = V.int b) = decide (a = b) := by simp
theorem dvs {a b : Str} : decide (V.str a = V.str b) = decide (a = b) := by simp
def spTupleOf (K : PySem.W.Frag) : Sp := fun vs H Q _ => ∃ v d a, vs = [v, .int a] ∧ Dp K H v d ∧ Q (.bl (isTupD d && decide ((lenD d : Int) = a))) H
theorem ok_tupleOf {f : Addr} {fd : FuncData} (F : Fun K "is_tuple_of" "is_tuple_of" s_is_tuple_of f fd) (T : Txt K mg A) : FnOk P w K mg base CX0 1 f fd pm_is_tuple_of (spTupleOf K) := by
  refine F.ok sc_is_tuple_of (fun vs H Q E h => ?_) (fun cdv A' outer s H vs Q E hr h => ?_)
  · obtain ⟨v, d, a, rfl, _⟩ := h
    rfl
  · obtain ⟨v, d, a, rfl, hk, q⟩ := h
    refine ⟨_, pss_one (ps_ret (pe_and (pe_callB call_isi (by rfl) T.n_isinstance (by decide +kernel) (pa_cons (pv 0) (pa_cons (pe_bltn (v := .ty "tuple") (by rfl) T.n_tuple (by decide +kernel) rfl) pa_nil))) (pe_one (pe_cmpR op_eq (pe_callB call_len_seq (by rfl) T.n_len (by decide +kernel) (pa_cons (pv 0) pa_nil)) (pv 1) (nomark _))))), ?_⟩
    refine ⟨v, rfl, v, .ty "tuple", .type (tnD d), .type "tuple", isTupD d, rfl, .ty _, dp_ty hk, kd_tup, _, rfl, ?_⟩
    cases h1 : isTupD d with
    | true =>
      rw [h1] at q
      obtain ⟨p, xs, ds, rfl, hx, ha, hd⟩ := dp_tup hk h1
      rw [dp_lenD ha (.inr hd)] at q
      refine iteT ⟨_, rfl, p, xs, rfl, .inr hx, _, rfl, rfl, ?_⟩
      show Q (.bl (decide (V.int (xs.length : Int) = V.int a))) H
      rw [dvi]
      exact q
    | false =>
      rw [h1] at q
      exact iteF q
/-! names -/
def inAl (c : Nat) : Bool := decide (c ∈ (("abcdefghijklmnopqrstuvwxyz" : Str)).cps.toList)
def nameS (s : Str) : Bool := (decide ((1 : Int) ≤ (s.length : Int)) && decide ((s.length : Int) ≤ 8)) && s.cps.toList.all inAl
def nameD : PyData → Bool | .str s => nameS s | _ => false
def SmD : PyData → Prop | .str s => s.length ≤ 1000 | _ => True
theorem small_sz {n : Nat} (h : n ≤ 2000) : n < sizeLine := Nat.lt_of_le_of_lt h (by decide)
theorem all_map {β : Type} {xs : List β} {f : β → Bool} : xs.map (fun x => V.bl (f x)) = (xs.map f).map V.bl := by
  rw [List.map_map]
  rfl
theorem all_id {β : Type} {xs : List β} {f : β → Bool} : (xs.map f).all id = xs.all f := by
  rw [List.all_map]
  rfl
def spName (K : PySem.W.Frag) : Sp := fun vs H Q _ => ∃ v d, vs = [v] ∧ Dp K H v d ∧ SmD d ∧ ∀ H', Ext H H' → Q (.bl (nameD d)) H'
theorem str_yes {H : Hp} {v : V} {d : PyData} (h : Dp K H v d) (hs : isStrD d = true) : ∃ s, d = .str s ∧ v = .str s := by
  cases h <;> first | exact ⟨_, rfl, rfl⟩ | cases hs
theorem ok_name {f : Addr} {fd : FuncData} (F : Fun K "is_name" "is_name" s_is_name f fd) (T : Txt K mg A) : FnOk P w K mg base CX0 1 f fd pm_is_name (spName K) := by
  refine F.ok sc_is_name (fun vs H Q E h => ?_) (fun cdv A' outer s H vs Q E hr h => ?_)
  · obtain ⟨_, _, rfl, _⟩ := h
    rfl
  · obtain ⟨v, d, rfl, hd, hsm, q⟩ := h
    refine ⟨_, pss_cons (ps_if (PW.pt (pw_or (pt_not (pt_val (pe_callB call_isi (by rfl) T.n_isinstance (by decide +kernel) (pa_cons (pv 0) (pa_cons (pe_bltn (v := .ty "str") (by rfl) T.n_str (by decide +kernel) rfl) pa_nil))))) (pw_or1 (pt_not (pt_chain op_le op_le (pe_int) (pe_callB call_len_str (by rfl) T.n_len (by decide +kernel) (pa_cons (pv 0) pa_nil)) (pe_int)))))) (pss_one (ps_ret (pe_bl))) (pss_nil))
      (pss_one (ps_ret (pe_callB (cr_all rfl) (by rfl) T.n_all (by decide +kernel) (pa_cons (pe_lc (own := [("sign", 1)]) (g := gName 1) (by rfl) sc_is_name.nd (pi_str (pv 0)) (blkOk_by (own := [("sign", 1)]) (N := nm_is_name) (sc := defScope s_is_name) (by decide +kernel)) (fun _ _ _ _ _ => pg_name (i := 1) sc_is_name.nd rfl (Or.inl rfl)) (fun s1 H1 C1 cl fp => pts_nil) (fun s1 H1 C1 cl fp => pe_cmpR op_in_sign (pv 1) (pe_gstr T.g_ALPHABET) (by with_unfolding_all rfl))) pa_nil)))), ?_⟩
    refine ⟨v, rfl, v, .ty "str", .type (tnD d), .type "str", isStrD d, rfl, .ty _, dp_ty hd, kd_str, _, rfl, ?_⟩
    cases h1 : isStrD d with
    | false =>
      have h := q H Ext.rfl'
      rw [show nameD d = false by cases d <;> first | rfl | cases h1] at h
      exact iteT h
    | true =>
      obtain ⟨z, rfl, rfl⟩ := str_yes hd h1
      have hz : z.length ≤ 1000 := hsm
      have hqn : ∀ H', Ext H H' → Q (.bl ((decide ((1 : Int) ≤ (z.length : Int)) && decide ((z.length : Int) ≤ 8)) && z.cps.toList.all inAl)) H' := q
      clear q
      refine iteF ⟨_, rfl, z, rfl, Nat.le_of_lt (small_sz (by omega)), _, _, rfl, rfl, _, rfl, ?_⟩
      cases h2 : decide ((1 : Int) ≤ (z.length : Int)) with
      | false =>
        have h := hqn H Ext.rfl'
        rw [h2] at h
        exact iteF ⟨_, rfl, iteT h⟩
      | true =>
        refine iteT ⟨_, _, rfl, rfl, _, rfl, ?_⟩
        cases h3 : decide ((z.length : Int) ≤ 8) with
        | false =>
          have h := hqn H Ext.rfl'
          rw [h2, h3] at h
          exact iteT h
        | true =>
          refine iteF ?_
          refine ⟨_, rfl, z, rfl, fun D hD => ?_⟩
          refine lc_it (walk_str (z := z)) (fun i H' => Ext H H' ∧ H' D = some (.lst ((((z.cps.toList.take i).map inAl)).map V.bl))) ⟨Ext.upd hD, upd_same⟩ (fun _ _ _ _ => True.intro) (fun i x H' H2 hi pv hy => ?_) (fun H' pv => ?_)
          · obtain ⟨e, hl⟩ := pv
            obtain ⟨rfl, c, hc, rfl⟩ := hy
            have hc' : z.cps.toList[i]? = some c := by rw [Array.getElem?_toList]; exact hc
            refine ⟨rfl, _, rfl, c, _, rfl, rfl, _, hl, small_sz ?_, ext_mut e hD, ?_⟩
            · rw [List.length_map, List.length_map, List.length_take]
              have : z.cps.toList.length = z.length := rfl
              omega
            · rw [upd_same, take_snoc hc', List.map_append, List.map_append]
              rfl
          · obtain ⟨e, hl⟩ := pv
            rw [List.take_of_length_le (by rw [Array.length_toList]; exact Nat.le_refl _)] at hl
            refine ⟨D, z.cps.toList.map inAl, rfl, SqL.of hl, ?_⟩
            have h := hqn H' e
            rw [h2, h3] at h
            rw [all_id]
            exact h
end
end K02

set_option Elab.async false
set_option maxRecDepth 100000
set_option maxHeartbeats 4000000
namespace K02
open PySem PySem.Spec PyProof.Rows L2
def sndD : PyData → PyData | .tuple (_ :: d :: _) => d | _ => .none
def toldD (d : PyData) (wd : Str) (m : Nat) : Bool := match d with
  | .tuple (.str s :: ds) => decide (ds.length + 1 = m) && decide (s = wd)
  | _ => false
def wordD (d : PyData) : Bool := if toldD d "short" 2 = true then betD (sndD d) 0 3 else toldD d "long" 2 && nameD (sndD d)
section
variable {P : Program} {w : World} {K : PySem.W.Frag} {mg : Str → Option Value} {base : Heap} {A : Ad}
def spTold (K : PySem.W.Frag) : Sp := fun vs H Q _ => ∃ (v : V) (d : PyData) (wd : Str) (m : Nat), vs = [v, .str wd, .int (m : Int)] ∧ Dp K H v d ∧ 1 ≤ m ∧ Q (.bl (toldD d wd m)) H
theorem told_no {d : PyData} {wd : Str} {m : Nat} (h : (isTupD d && decide ((lenD d : Int) = (m : Int))) = false) : toldD d wd m = false := by
  unfold toldD
  split
  · rename_i s ds
    rw [show decide (ds.length + 1 = m) = false from decide_eq_false fun e => by
      have z : decide (((ds.length + 1 : Nat) : Int) = (m : Int)) = false := h
      rw [decide_eq_true (by omega)] at z
      cases z]
    rfl
  · rfl
theorem told_yes {H : Hp} {v : V} {d : PyData} {wd : Str} (hd : Dp K H v d) (h : toldD d wd 2 = true) : ∃ p y d1, v = .ref p ∧ SqT K H p [.str wd, y] ∧ Dp K H y d1 ∧ d = .tuple [.str wd, d1] := by
  unfold toldD at h
  split at h
  · rename_i s ds
    rw [Bool.and_eq_true, decide_eq_true_eq, decide_eq_true_eq] at h
    obtain ⟨h1, rfl⟩ := h
    obtain ⟨p, xs, ds', rfl, hx, ha, e⟩ := dp_tup hd rfl
    cases e
    match ds, h1, ha with
    | [d1], _, ha =>
      cases ha with
      | cons a1 ha =>
        cases ha with
        | cons a2 ha =>
          cases ha
          cases a1
          exact ⟨p, _, d1, rfl, hx, a2, rfl⟩
  · cases h
def spWord (K : PySem.W.Frag) : Sp := fun vs H Q _ => ∃ (v : V) (d : PyData), vs = [v] ∧ Dp K H v d ∧ SmD (sndD d) ∧ ∀ H', Ext H H' → Q (.bl (wordD d)) H'
/-! heads -/
def itemsD : PyData → Option (List PyData) | .list ds => some ds | .tuple ds => some ds | _ => none
def ErrH (A : Ad) (E : XK) (H : Hp) (v : V) : Prop := ∀ H', Ext H H' → ∀ e, H' e = none → E (.ref A.BadHead) (some e) (upd H' e (.xd [("index", v)]))
def badAt (ds : List PyData) : Option Nat := ds.findIdx? fun d => !nameD d
theorem find_at {ds : List PyData} {f : PyData → Bool} {i : Nat} {d : PyData} (h0 : ∀ (j : Nat) (d : PyData), j < i → ds[j]? = some d → f d = false) (hd : ds[i]? = some d) (h : f d = true) : ds.findIdx? f = some i := by
  induction ds generalizing i with
  | nil => cases hd
  | cons x xs ih =>
    rw [List.findIdx?_cons]
    cases i with
    | zero =>
      cases hd
      rw [h]
      rfl
    | succ i =>
      rw [h0 0 x (Nat.succ_pos _) rfl]
      have z := ih (i := i) (fun j d hj hd => h0 (j + 1) d (Nat.succ_lt_succ hj) hd) hd
      rw [z]
      rfl
theorem find_no {ds : List PyData} {f : PyData → Bool} (h0 : ∀ (j : Nat) (d : PyData), ds[j]? = some d → f d = false) : ds.findIdx? f = none := by
  rw [List.findIdx?_eq_none_iff]
  intro x hx
  obtain ⟨j, hj⟩ := List.mem_iff_getElem?.mp hx
  exact h0 j x hj
def spHeads (K : PySem.W.Frag) (A : Ad) : Sp := fun vs H Q E => ∃ (v : V) (d : PyData), vs = [v] ∧ Dp K H v d ∧ (∀ ds, itemsD d = some ds → ∀ x ∈ ds, SmD x) ∧ (isSeqD d = false → ErrH A E H .non) ∧ (∀ ds i, itemsD d = some ds → badAt ds = some i → ErrH A E H (.int (i : Nat))) ∧
  (∀ ds, itemsD d = some ds → badAt ds = none → ∀ H', Ext H H' → Q .non H')
theorem ok_heads {f : Addr} {fd : FuncData} (F : Fun K "check_heads" "check_heads" s_check_heads f fd) (T : Txt K mg A) (O_is_list : Own P w K mg base CX0 "is_list" 1 pm_is_list (spIsList K)) (O_is_name : Own P w K mg base CX0 "is_name" 1 pm_is_name (spName K)) (X_BadHead : XCls P w K mg base "BadHead" "index" A.BadHead) : FnOk P w K mg base (L2.CX P w) 3 f fd pm_check_heads (spHeads K A) := by
  refine F.okX sc_check_heads (fun vs H Q E h => ?_) (fun cdv A' outer s H vs Q E hr h => ?_)
  · obtain ⟨_, _, rfl, _⟩ := h
    rfl
  · obtain ⟨v, d, rfl, hd, hsm, e1, e2, k⟩ := h
    refine ⟨_, pss_cons (ps_if (pt_not (pt_val (pe_own O_is_list (hr.mono (by decide)) pass0 (pa_cons (pv 0) pa_nil)))) (pss_one (ps_raise rfl (takes_of rfl rfl rfl rfl) (pmk_X X_BadHead (hr.mono (by decide)) (pe_non) rfl))) (pss_nil))
      (pss_one (ps_for (passes_of rfl) rfl (pi_enSq rfl T.n_enumerate (pa_cons (pv 0) pa_nil)) (pg_tup rfl (pgs_cons (pg_name (i := 1) sc_check_heads.nd rfl (Or.inl rfl)) (pgs_cons (pg_name (i := 2) sc_check_heads.nd rfl (Or.inl rfl)) (pgs_nil)))) (pss_one (ps_if (pt_not (pt_val (pe_own O_is_name (hr.mono (by decide)) pass0 (pa_cons (pv 2) pa_nil)))) (pss_one (ps_raise rfl (takes_of rfl rfl rfl rfl) (pmk_X X_BadHead (hr.mono (by decide)) (pv 1) rfl))) (pss_nil))))), ?_⟩
    refine ⟨v, rfl, v, .type (tnD d), isSeqD d, rfl, fun H' e => dp_ty (dp_ext e _ _ hd), by rw [kd_seq], fun H1 x1 => ⟨_, rfl, ?_⟩⟩
    cases h1 : isSeqD d with
    | false => exact iteT (mkX_fin fun e he => e1 h1 _ x1 e he)
    | true =>
      refine iteF ?_
      obtain ⟨a, xs, ds, rfl, hx, ha, hdd⟩ := dp_seq (dp_ext x1 _ _ hd) h1
      have hit : itemsD d = some ds := by rcases hdd with rfl | rfl <;> rfl
      refine ⟨_, rfl, a, rfl, ?_⟩
      refine for_enSq (xs := xs) hx (fun i σ' H' => Ext H1 H' ∧ (∃ o1 o2, σ' = [some (.ref a), o1, o2]) ∧ ∀ j d, j < i → ds[j]? = some d → nameD d = true) ⟨Ext.rfl', ⟨_, _, rfl⟩, fun j d hj _ => absurd hj (Nat.not_lt_zero _)⟩ (fun i σ' H' pv => pv.1) (fun i v σ' H' T' hi pv hT => ?_) (fun σ' H' pv => ?_)
      · obtain ⟨x2, ⟨o1, o2, rfl⟩, hok⟩ := pv
        refine ⟨T', _, rfl, SqT.of upd_same, rfl, _, _, rfl, _, _, rfl, rfl, ?_⟩
        have x3 := x2.upd' (o := .tup [.int (i : Nat), v]) hT
        obtain ⟨d0, hdi, hdv⟩ := dps_get (dps_ext x3 _ _ ha) hi
        refine ⟨v, rfl, v, d0, rfl, hdv, hsm ds hit d0 (List.mem_of_getElem? hdi), fun H4 x4 => ⟨_, rfl, ?_⟩⟩
        cases h4 : nameD d0 with
        | false =>
          refine iteT ⟨_, rfl, mkX_fin fun e he => e2 ds i hit ?_ _ ((x1.trans x3).trans x4) e he⟩
          exact find_at (f := fun d => !nameD d) (fun j d hj hd => by rw [hok j d hj hd]; rfl) hdi (by rw [h4]; rfl)
        | true =>
          refine iteF ⟨x3.trans x4, ⟨_, _, rfl⟩, fun j d' hj hd' => ?_⟩
          rcases Nat.lt_succ_iff_lt_or_eq.mp hj with hj | rfl
          · exact hok j d' hj hd'
          · rw [hdi] at hd'
            cases hd'
            exact h4
      · obtain ⟨x2, ⟨o1, o2, rfl⟩, hok⟩ := pv
        refine k ds hit ?_ _ (x1.trans x2)
        exact find_no (f := fun d => !nameD d) fun j d hd => by
          have hj : j < xs.length := by
            rw [dps_len ha]
            exact (List.getElem?_eq_some_iff.mp hd).1
          rw [hok j d hj hd]
          rfl
def ErrP (A : Ad) (E : XK) (H : Hp) (s : Str) : Prop := ∀ H', Ext H H' → ∀ e, H' e = none → E (.ref A.BadPart) (some e) (upd H' e (.xd [("part", .str s)]))
def spPlaces (K : PySem.W.Frag) (A : Ad) : Sp := fun vs H Q E => ∃ (v : V) (d : PyData), vs = [v] ∧ Dp K H v d ∧ (betD d 0 4 = false → ErrP A E H "places") ∧ (betD d 0 4 = true → Q .non H)
theorem ok_places {f : Addr} {fd : FuncData} (F : Fun K "check_places" "check_places" s_check_places f fd) (T : Txt K mg A) (O_is_between : Own P w K mg base CX0 "is_between" 2 pm_is_between (spBetween K)) (X_BadPart : XCls P w K mg base "BadPart" "part" A.BadPart) : FnOk P w K mg base (L2.CX P w) 4 f fd pm_check_places (spPlaces K A) := by
  refine F.okX sc_check_places (fun vs H Q E h => ?_) (fun cdv A' outer s H vs Q E hr h => ?_)
  · obtain ⟨_, _, rfl, _⟩ := h
    rfl
  · obtain ⟨v, d, rfl, hd, qE, qQ⟩ := h
    refine ⟨_, pss_one (ps_if (pt_not (pt_val (pe_own O_is_between (hr.mono (by decide)) pass0 (pa_cons (pv 0) (pa_cons (pe_int) (pa_cons (pe_gint T.g_MOST_PLACES) pa_nil)))))) (pss_one (ps_raise rfl (takes_of rfl rfl rfl rfl) (pmk_X X_BadPart (hr.mono (by decide)) (pe_str) rfl))) (pss_nil)), ?_⟩
    refine ⟨v, rfl, v, d, 0, 4, rfl, hd, _, rfl, ?_⟩
    cases h1 : betD d 0 4 with
    | false => exact iteT (mkX_fin fun e he => qE h1 _ Ext.rfl' e he)
    | true => exact iteF (qQ h1)
end
end K02

set_option Elab.async false
set_option maxRecDepth 100000
set_option maxHeartbeats 4000000
namespace K02
open PySem PySem.Spec PyProof.Rows L2
def sV : Option Str → V | none => .non | some s => .str s
def nI (j : Nat) : V := .int (j : Int)
def oV : Option Nat → V | none => .non | some j => nI j
theorem eq_sV (a b : Option Str) : eqV (sV a) (sV b) = decide (a = b) := by
  cases a with
  | none => cases b <;> rfl
  | some a =>
    cases b with
    | none => rfl
    | some b =>
      show (a == b) = _
      rw [Bool.eq_iff_iff]
      simp
theorem in_sV (a : Option Str) : ∀ S : List (Option Str), inV (sV a) (S.map sV) = decide (a ∈ S)
  | [] => rfl
  | s :: S => by
    have ih := in_sV a S
    unfold inV at ih ⊢
    rw [List.map_cons, List.any_cons, ih, eq_sV, Bool.eq_iff_iff]
    simp
    constructor
    · rintro (e | e)
      · exact .inl e.symm
      · exact .inr e
    · rintro (e | e)
      · exact .inl e.symm
      · exact .inr e
theorem flat_sV {S : List (Option Str)} : (S.map sV).all flatV = true := by
  rw [List.all_eq_true]
  intro v hv
  obtain ⟨n, _, rfl⟩ := List.mem_map.mp hv
  cases n <;> rfl
theorem fl1 (a : Option Str) : flatV (sV a) = true := by cases a <;> rfl
theorem at_sV {a : Option Str} {S : List (Option Str)} (h : a ∈ S) : (S.map sV)[at1 S a]? = some (sV a) ∧ ∀ (m : Nat) (z : V), m < at1 S a → (S.map sV)[m]? = some z → eqV z (sV a) = false := by
  obtain ⟨h1, h2⟩ := at1_mem h
  refine ⟨by rw [List.getElem?_map, h1]; rfl, fun m z hm hz => ?_⟩
  rw [List.getElem?_map] at hz
  cases hy : S[m]? with
  | none => rw [hy] at hz; cases hz
  | some y =>
    rw [hy] at hz
    cases hz
    rw [eq_sV]
    exact decide_eq_false (h2 m y hm hy)
theorem nn_sV (a : Option Str) : (decide (sV a = .non)) = decide (a = none) := by cases a <;> simp [sV]
theorem nn_oV (a : Option Nat) : (decide (oV a = .non)) = decide (a = none) := by cases a <;> simp [oV, nI]
section
variable {P : Program} {w : World} {K : PySem.W.Frag} {mg : Str → Option Value} {base : Heap} {A : Ad}
def spNext (K : PySem.W.Frag) : Sp := fun vs H Q _ => ∃ (ps po : Addr) (S : List (Option Str)) (O : List Nat), vs = [.ref ps, .ref po] ∧ ((SqL K H ps (S.map sV) ∧ SqL K H po (O.map nI)) ∨ (FrzT H ps (S.map sV) ∧ SqT K H po (O.map nI))) ∧
  (O.length < S.length → none ∈ S) ∧ Q (oV (nextP (S, O))) H
end
end K02

set_option Elab.async false
set_option maxRecDepth 100000
set_option maxHeartbeats 4000000
namespace K02
open PySem PySem.Spec PyProof.Rows L2
theorem ok_run {n : Nat} : ∀ us : List Str, ∃ ns, Ok n (run n us) ns ∧ ∀ x, x ∈ ns → x ∈ us := by
  have h : ∀ (us : List Str) (s : St Str) (ns : List Str), Ok n s ns → ∃ ns', Ok n (us.foldl step s) ns' ∧ ∀ x, x ∈ ns' → x ∈ ns ∨ x ∈ us := by
    intro us
    induction us with
    | nil => exact fun s ns o => ⟨ns, o, fun x hx => .inl hx⟩
    | cons u us ih =>
      intro s ns o
      obtain ⟨n1, o1, h1⟩ := ok_step o u
      obtain ⟨n2, o2, h2⟩ := ih _ _ o1
      refine ⟨n2, o2, fun x hx => ?_⟩
      rcases h2 x hx with h | h
      · rcases h1 x h with h | h
        · exact .inl h
        · exact .inr (by rw [h]; exact List.mem_cons_self)
      · exact .inr (List.mem_cons_of_mem _ h)
  intro us
  obtain ⟨ns, o, h⟩ := h us _ [] ok_emp
  exact ⟨ns, o, fun x hx => (h x hx).resolve_left (List.not_mem_nil)⟩
theorem run_snoc {n : Nat} {us : List Str} {i : Nat} {u : Str} (h : us[i]? = some u) : run n (us.take (i + 1)) = step (run n (us.take i)) u := by
  unfold run
  rw [take_snoc h, List.foldl_append]
  rfl
theorem ne_nI {O : List Nat} (p : Nat) : (O.map nI).filter (fun v => !decide (v = nI p)) = (O.filter (fun o => decide (o ≠ p))).map nI := by
  rw [List.filter_map]
  congr 1
  refine List.filter_congr fun x _ => ?_
  show (!decide (V.int (x : Int) = V.int (p : Int))) = _
  rw [dvi, Bool.eq_iff_iff]
  simp
  omega
section
variable {P : Program} {w : World} {K : PySem.W.Frag} {mg : Str → Option Value} {base : Heap} {A : Ad}
def spBehind (K : PySem.W.Frag) : Sp := fun vs H Q _ => ∃ (n : Nat) (a : Addr) (us : List Str), vs = [.int (n : Int), .ref a] ∧ (SqL K H a (us.map V.str) ∨ SqT K H a (us.map V.str)) ∧ n ≤ 4 ∧ ∀ q ps po H', Ext H H' → H' q = some (.tup [.ref ps, .ref po]) →
  FrzT H' ps ((run n us).1.map sV) → SqT K H' po ((run n us).2.map nI) → Q (.ref q) H'
theorem place_lt {n : Nat} {s : St Str} {ns : List Str} (o : Ok n s ns) {u : Str} {p : Nat} (h : place s u = some p) : p < s.1.length := by
  unfold place at h
  by_cases hm : some u ∈ s.1
  · rw [if_pos hm] at h
    cases h
    exact (List.getElem?_eq_some_iff.mp (at1_mem hm).1).1
  · rw [if_neg hm] at h
    unfold nextP at h
    by_cases hl : s.2.length < s.1.length
    · rw [if_pos hl] at h
      cases h
      rw [o.olen, o.len] at hl
      rw [o.atn hl, o.len]
      exact hl
    · rw [if_neg hl] at h
      cases hO : s.2 with
      | nil => rw [hO] at h; cases h
      | cons q O =>
        rw [hO] at h
        cases h
        have z : p < ns.length := o.omem.mp (by rw [hO]; exact List.mem_cons_self)
        rw [o.len]
        exact Nat.lt_of_lt_of_le z o.le
end
end K02

set_option Elab.async false
set_option maxRecDepth 100000
set_option maxHeartbeats 4000000
namespace K02
open PySem PySem.Spec PyProof.Rows L2
def letterD : PyData → Bool
  | .tuple [.tuple hs, b] => decide (hs.length ≤ 4) && (hs.all nameD && betD b 0 60)
  | _ => false
def SmL (d : PyData) : Prop := ∀ hs b, d = .tuple [.tuple hs, b] → ∀ x ∈ hs, SmD x
section
variable {P : Program} {w : World} {K : PySem.W.Frag} {mg : Str → Option Value} {base : Heap} {A : Ad}
theorem tup_two {H : Hp} {v : V} {d : PyData} (h : Dp K H v d) (h2 : (isTupD d && decide ((lenD d : Int) = 2)) = true) : ∃ p x y d1 d2, v = .ref p ∧ d = .tuple [d1, d2] ∧ SqT K H p [x, y] ∧ Dp K H x d1 ∧ Dp K H y d2 := by
  rw [Bool.and_eq_true, decide_eq_true_eq] at h2
  obtain ⟨p, xs, ds, rfl, hx, ha, hd⟩ := dp_tup h h2.1
  subst hd
  have hl : (ds.length : Int) = 2 := h2.2
  rcases ds with _ | ⟨d1, _ | ⟨d2, _ | ⟨d3, ds⟩⟩⟩
  · cases hl
  · cases hl
  · cases ha with
    | cons a1 ha =>
      cases ha with
      | cons a2 ha =>
        cases ha
        exact ⟨p, _, _, d1, d2, rfl, rfl, hx, a1, a2⟩
  · exfalso
    rw [List.length_cons, List.length_cons, List.length_cons] at hl
    omega
def spLetter (K : PySem.W.Frag) : Sp := fun vs H Q _ => ∃ (v : V) (d : PyData), vs = [v] ∧ Dp K H v d ∧ SmL d ∧ ∀ H', Ext H H' → Q (.bl (letterD d)) H'
theorem ok_letter {f : Addr} {fd : FuncData} (F : Fun K "is_letter" "is_letter" s_is_letter f fd) (T : Txt K mg A) (O_is_tuple_of : Own P w K mg base CX0 "is_tuple_of" 1 pm_is_tuple_of (spTupleOf K)) (O_is_name : Own P w K mg base CX0 "is_name" 1 pm_is_name (spName K)) (O_is_between : Own P w K mg base CX0 "is_between" 2 pm_is_between (spBetween K)) : FnOk P w K mg base CX0 3 f fd pm_is_letter (spLetter K) := by
  refine F.ok sc_is_letter (fun vs H Q E h => ?_) (fun cdv A' outer sh H vs Q E hr h => ?_)
  · obtain ⟨_, _, rfl, _⟩ := h
    rfl
  · obtain ⟨v, d, rfl, hd, hsm, q⟩ := h
    refine ⟨_, pss_cons (ps_if (pt_not (pt_val (pe_own O_is_tuple_of (hr.mono (by decide)) pass0 (pa_cons (pv 0) (pa_cons (pe_int) pa_nil))))) (pss_one (ps_ret (pe_bl))) (pss_nil))
      (pss_cons (ps_asg (pv 0) (pg_tup rfl (pgs_cons (pg_name (i := 1) sc_is_letter.nd rfl (Or.inl rfl)) (pgs_cons (pg_name (i := 2) sc_is_letter.nd rfl (Or.inl rfl)) (pgs_nil)))))
      (pss_cons (ps_if (PW.pt (pw_or (pt_not (pt_val (pe_callB call_isi (by rfl) T.n_isinstance (by decide +kernel) (pa_cons (pv 1) (pa_cons (pe_bltn (v := .ty "tuple") (by rfl) T.n_tuple (by decide +kernel) rfl) pa_nil))))) (pw_or1 (pt_cmpR op_gt (pe_callB call_len_seq (by rfl) T.n_len (by decide +kernel) (pa_cons (pv 1) pa_nil)) (pe_gint T.g_MOST_HEADS) (nomark _))))) (pss_one (ps_ret (pe_bl))) (pss_nil))
      (pss_one (ps_ret (pe_and (pe_callB (cr_all rfl) (by rfl) T.n_all (by decide +kernel) (pa_cons (pe_lc (own := [("head", 3)]) (g := gName 3) (by rfl) sc_is_letter.nd (pi_tup (pv 1)) (blkOk_by (own := [("head", 3)]) (N := nm_is_letter) (sc := defScope s_is_letter) (by decide +kernel)) (fun _ _ _ _ _ => pg_name (i := 3) sc_is_letter.nd rfl (Or.inl rfl)) (fun s1 H1 C1 cl fp => pts_nil) (fun s1 H1 C1 cl fp => pe_own O_is_name (hr.mono (by decide)) pass0 (pa_cons (pv 3) pa_nil))) pa_nil)) (pe_one (pe_own O_is_between (hr.mono (by decide)) pass0 (pa_cons (pv 2) (pa_cons (pe_int) (pa_cons (pe_gint T.g_MOST_BODY) pa_nil)))))))))), ?_⟩
    refine ⟨_, rfl, v, d, 2, rfl, hd, _, rfl, ?_⟩
    cases h2 : (isTupD d && decide ((lenD d : Int) = 2)) with
    | false =>
      refine iteT ?_
      have : letterD d = false := by
        unfold letterD
        split
        · rw [show (isTupD (PyData.tuple [.tuple _, _]) && decide ((lenD (PyData.tuple [.tuple _, _]) : Int) = 2)) = true from rfl] at h2
          cases h2
        · rfl
      rw [this] at q
      exact q H Ext.rfl'
    | true =>
      obtain ⟨p, x, y, d1, d2, rfl, rfl, hp, hx, hy⟩ := tup_two hd h2
      refine iteF ⟨_, rfl, p, [x, y], rfl, hp, rfl, _, _, rfl, _, _, rfl, rfl, ?_⟩
      refine ⟨_, rfl, x, .ty "tuple", .type (tnD d1), .type "tuple", isTupD d1, rfl, .ty _, dp_ty hx, kd_tup, _, rfl, ?_⟩
      cases h1 : isTupD d1 with
      | false =>
        refine iteT ?_
        have : letterD (.tuple [d1, d2]) = false := by cases d1 <;> first | rfl | cases h1
        rw [this] at q
        exact q H Ext.rfl'
      | true =>
        obtain ⟨p1, xs, ds, rfl, hx1, ha, rfl⟩ := dp_tup hx h1
        have hl := dps_len ha
        refine iteF ⟨_, rfl, p1, _, rfl, .inr hx1, _, _, rfl, rfl, _, rfl, ?_⟩
        replace q : ∀ H', Ext H H' → Q (.bl (decide (ds.length ≤ 4) && (ds.all nameD && betD d2 0 60))) H' := q
        by_cases h4 : ds.length ≤ 4
        · rw [decide_eq_false (show ¬ (xs.length : Int) > 4 by omega)]
          rw [decide_eq_true h4] at q
          refine iteF ⟨_, rfl, p1, rfl, ⟨_, hx1⟩, fun C hC => ?_⟩
          refine lc_it (walk_tup (xs := xs)) (fun m H' => Ext H H' ∧ H' C = some (.lst (((ds.take m).map nameD).map V.bl))) ⟨Ext.upd hC, upd_same⟩ (fun m H' _ pv => hx1.ext pv.1) (fun m z H' H2 hi pv hyy => ?_) (fun H' pv => ?_)
          · obtain ⟨e4, hC4⟩ := pv
            obtain ⟨rfl, hz⟩ := hyy
            obtain ⟨dz, hdz, hdp⟩ := dps_get (dps_ext e4 _ _ ha) hz
            refine ⟨rfl, _, rfl, z, dz, rfl, hdp, hsm _ _ rfl dz (List.mem_of_getElem? hdz), fun H3 e5 => ?_⟩
            refine ⟨_, e5 _ _ hC4, small_sz ?_, ext_mut (e4.trans e5) hC, ?_⟩
            · rw [List.length_map, List.length_map, List.length_take]
              omega
            · rw [upd_same, take_snoc hdz, List.map_append, List.map_append]
              rfl
          · obtain ⟨e4, hC4⟩ := pv
            rw [List.take_of_length_le (by omega)] at hC4
            refine ⟨C, _, rfl, SqL.of hC4, ?_⟩
            rw [all_id]
            have z0 := q H' e4
            cases hal : ds.all nameD with
            | false =>
              rw [hal] at z0
              exact ⟨false, rfl, z0⟩
            | true =>
              rw [hal] at z0
              exact ⟨true, rfl, _, rfl, y, d2, 0, 60, rfl, dp_ext e4 _ _ hy, z0⟩
        · rw [decide_eq_true (show (xs.length : Int) > 4 by omega)]
          rw [decide_eq_false h4] at q
          exact iteT (q H Ext.rfl')
end
end K02

set_option Elab.async false
set_option maxRecDepth 100000
set_option maxHeartbeats 4000000
namespace K02
open PySem PySem.Spec PyProof.Rows L2
def Thg (K : PySem.W.Frag) (H : Hp) (v : V) (d : PyData) : Prop := Dp K H v d ∨ (d = .dict [] ∧ ∃ a, v = .ref a ∧ H a = some (.dK []))
theorem Thg.ext {K : PySem.W.Frag} {H H' : Hp} {v : V} {d : PyData} (h : Thg K H v d) (e : Ext H H') : Thg K H' v d := by
  rcases h with h | ⟨h, a, rfl, h2⟩
  · exact .inl (dp_ext e _ _ h)
  · exact .inr ⟨h, a, rfl, e _ _ h2⟩
theorem Thg.ty {K : PySem.W.Frag} {H : Hp} {v : V} {d : PyData} (h : Thg K H v d) : TyX K H v (.type (tnD d)) := by
  rcases h with h | ⟨rfl, a, rfl, h2⟩
  · exact dp_ty h
  · exact .base (.dK h2)
def badL (ds : List PyData) : Option Nat := ds.findIdx? fun d => !letterD d
def ErrR (A : Ad) (E : XK) (H : Hp) (v : V) : Prop := ∀ H', Ext H H' → ∀ e, H' e = none → E (.ref A.BadRow) (some e) (upd H' e (.xd [("index", v)]))
def ErrL (A : Ad) (E : XK) (H : Hp) (a i : Int) : Prop := ∀ H' t, Ext H H' → H' t = some (.tup [.int a, .int i]) → ∀ e, H' e = none → E (.ref A.BadLetter) (some e) (upd H' e (.xd [("spot", .ref t)]))
def ErrLN (A : Ad) (E : XK) (H : Hp) : Prop := ∀ H', Ext H H' → ∀ e, H' e = none → E (.ref A.BadLetter) (some e) (upd H' e (.xd [("spot", .non)]))
def ErrI (A : Ad) (E : XK) (H : Hp) (v : V) : Prop := ∀ H', Ext H H' → ∀ e, H' e = none → E (.ref A.BadIndex) (some e) (upd H' e (.xd [("index", v)]))
def ErrM (A : Ad) (E : XK) (H : Hp) (k : Int) : Prop := ∀ H', Ext H H' → ∀ e, H' e = none → E (.ref A.TooMany) (some e) (upd H' e (.xd [("limit", .int k)]))
section
variable {P : Program} {w : World} {K : PySem.W.Frag} {mg : Str → Option Value} {base : Heap} {A : Ad}
structure RowS (K : PySem.W.Frag) (A : Ad) (vs : List V) (H : Hp) (Q : VK) (E : XK) : Prop where
  h : ∃ (a : Int) (v : V) (d : PyData), vs = [.int a, v] ∧ Thg K H v d ∧ (∀ ds, itemsD d = some ds → ds.length ≤ 1000 ∧ ∀ x ∈ ds, SmL x) ∧ ((isSeqD d = false ∨ itemsD d = some []) → ErrR A E H (.int a)) ∧
    (∀ ds i, itemsD d = some ds → badL ds = some i → ErrL A E H a (i : Nat)) ∧ (∀ ds, itemsD d = some ds → badL ds = none → 6 < ds.length → ErrM A E H 6) ∧
    ∀ ds, itemsD d = some ds → badL ds = none → 0 < ds.length → ds.length ≤ 6 → ∀ H', Ext H H' → Q .non H'
def spRow (K : PySem.W.Frag) (A : Ad) : Sp := fun vs H Q E => RowS K A vs H Q E
theorem ok_row {f : Addr} {fd : FuncData} (F : Fun K "check_row" "check_row" s_check_row f fd) (T : Txt K mg A) (O_is_list : Own P w K mg base CX0 "is_list" 1 pm_is_list (spIsList K)) (O_is_letter : Own P w K mg base CX0 "is_letter" 3 pm_is_letter (spLetter K)) (X_BadRow : XCls P w K mg base "BadRow" "index" A.BadRow) (X_BadLetter : XCls P w K mg base "BadLetter" "spot" A.BadLetter) (X_TooMany : OCls P w K mg base "TooMany" "limit" A.TooMany) : FnOk P w K mg base (L2.CX P w) 5 f fd pm_check_row (spRow K A) := by
  refine F.okX sc_check_row (fun vs H Q E h => ?_) (fun cdv A' outer sh H vs Q E hr h => ?_)
  · obtain ⟨_, _, _, rfl, _⟩ := h.h
    rfl
  · obtain ⟨a, v, d, rfl, hd, hsm, q1, q2, q3, q4⟩ := h.h
    refine ⟨_, pss_cons (ps_if (PW.pt (pw_or (pt_not (pt_val (pe_own O_is_list (hr.mono (by decide)) pass0 (pa_cons (pv 1) pa_nil)))) (pw_or1 (pt_cmpR op_eq (pe_callB call_len_seq (by rfl) T.n_len (by decide +kernel) (pa_cons (pv 1) pa_nil)) (pe_int) (nomark _))))) (pss_one (ps_raise rfl (takes_of rfl rfl rfl rfl) (pmk_X X_BadRow (hr.mono (by decide)) (pv 0) rfl))) (pss_nil))
      (pss_cons (ps_for (passes_of rfl) rfl (pi_enSq rfl T.n_enumerate (pa_cons (pv 1) pa_nil)) (pg_tup rfl (pgs_cons (pg_name (i := 2) sc_check_row.nd rfl (Or.inl rfl)) (pgs_cons (pg_name (i := 3) sc_check_row.nd rfl (Or.inl rfl)) (pgs_nil)))) (pss_one (ps_if (pt_not (pt_val (pe_own O_is_letter (hr.mono (by decide)) pass0 (pa_cons (pv 3) pa_nil)))) (pss_one (ps_raise rfl (takes_of rfl rfl rfl rfl) (pmk_X X_BadLetter (hr.mono (by decide)) (pe_tup (pa_cons (pv 0) (pa_cons (pv 2) pa_nil))) rfl))) (pss_nil))))
      (pss_one (ps_if (pt_cmpR op_gt (pe_callB call_len_seq (by rfl) T.n_len (by decide +kernel) (pa_cons (pv 1) pa_nil)) (pe_gint T.g_MOST_LETTERS) (nomark _)) (pss_one (ps_raise rfl (takes_of rfl rfl rfl rfl) (pmk_O X_TooMany (hr.mono (by decide)) (pe_gint T.g_MOST_LETTERS) rfl))) (pss_nil)))), ?_⟩
    refine ⟨v, rfl, v, .type (tnD d), isSeqD d, rfl, fun H' e => (hd.ext e).ty, by rw [kd_seq], fun H1 x1 => ⟨_, rfl, ?_⟩⟩
    cases h1 : isSeqD d with
    | false => exact iteT (iteT ⟨_, rfl, mkX_fin fun e he => q1 (.inl h1) _ x1 e he⟩)
    | true =>
      refine iteF ?_
      have hdp : Dp K H v d := by
        rcases hd with h | ⟨rfl, _⟩
        · exact h
        · cases h1
      obtain ⟨p, xs, ds, rfl, hx, ha, hdd⟩ := dp_seq (dp_ext x1 _ _ hdp) h1
      have hit : itemsD d = some ds := by rcases hdd with rfl | rfl <;> rfl
      obtain ⟨hl, hsl⟩ := hsm ds hit
      have hxl := dps_len ha
      refine ⟨_, rfl, p, _, rfl, hx, rfl, _, rfl, ?_⟩
      rw [dvi, hxl]
      by_cases h0 : (ds.length : Int) = 0
      · rw [decide_eq_true h0]
        have hn : ds = [] := List.eq_nil_of_length_eq_zero (by omega)
        exact iteT ⟨_, rfl, mkX_fin fun e he => q1 (.inr (by rw [hit, hn])) _ x1 e he⟩
      rw [decide_eq_false h0]
      refine iteF ⟨_, rfl, p, rfl, ?_⟩
      refine for_enSq (xs := xs) hx (fun i σ' H' => Ext H1 H' ∧ (∃ o1 o2, σ' = [some (.int a), some (.ref p), o1, o2]) ∧ ∀ j d, j < i → ds[j]? = some d → letterD d = true) ⟨Ext.rfl', ⟨_, _, rfl⟩, fun j d hj _ => absurd hj (Nat.not_lt_zero _)⟩ (fun i σ' H' pv => pv.1) (fun i v σ' H' T' hi pv hT => ?_) (fun σ' H' pv => ?_)
      · obtain ⟨x2, ⟨o1, o2, rfl⟩, hok⟩ := pv
        refine ⟨T', _, rfl, SqT.of upd_same, rfl, _, _, rfl, _, _, rfl, rfl, ?_⟩
        have x3 := x2.upd' (o := .tup [.int (i : Nat), v]) hT
        obtain ⟨d0, hdi, hdv⟩ := dps_get (dps_ext x3 _ _ ha) hi
        refine ⟨v, rfl, v, d0, rfl, hdv, hsl d0 (List.mem_of_getElem? hdi), fun H4 x4 => ⟨_, rfl, ?_⟩⟩
        cases h4 : letterD d0 with
        | false =>
          have hbad : badL ds = some i := find_at (f := fun d => !letterD d) (fun j d hj hd => by rw [hok j d hj hd]; rfl) hdi (by rw [h4]; rfl)
          refine iteT ⟨_, rfl, _, rfl, by show 2 ≤ sizeLine; decide, fun t ht => ?_⟩
          exact mkX_fin fun e he => q2 ds i hit hbad _ t ((((x1.trans x3).trans x4)).trans (Ext.upd ht)) upd_same e he
        | true =>
          refine iteF ⟨x3.trans x4, ⟨_, _, rfl⟩, fun j d hj hd => ?_⟩
          rcases Nat.lt_succ_iff_lt_or_eq.mp hj with hj | rfl
          · exact hok j d hj hd
          · rw [hdi] at hd
            cases hd
            exact h4
      · obtain ⟨x2, ⟨o1, o2, rfl⟩, hok⟩ := pv
        have hbad : badL ds = none := by
          unfold badL
          rw [List.findIdx?_eq_none_iff]
          intro d hd
          obtain ⟨j, hj⟩ := List.getElem?_of_mem hd
          have hjl := (List.getElem?_eq_some_iff.mp hj).1
          rw [hok j d (by rw [hxl]; exact hjl) hj]; rfl
        have hx2 : SqL K H' p xs ∨ SqT K H' p xs := by
          rcases hx with hx | hx
          · exact .inl (hx.ext x2)
          · exact .inr (hx.ext x2)
        refine ⟨_, rfl, p, xs, rfl, hx2, _, _, rfl, rfl, _, rfl, ?_⟩
        rw [hxl]
        by_cases h6 : (ds.length : Int) > 6
        · rw [decide_eq_true h6]
          exact iteT (mkX_fin fun e he => q3 ds hit hbad (by omega) _ (x1.trans x2) e he)
        · rw [decide_eq_false h6]
          exact iteF (q4 ds hit hbad (by omega) (by omega) _ (x1.trans x2))
end
end K02

set_option Elab.async false
set_option maxRecDepth 100000
set_option maxHeartbeats 4000000
namespace K02
open PySem PySem.Spec PyProof.Rows L2
theorem pi_sqK {X : Cx} {K : PySem.W.Frag} {tg l : Expr} {tl : TE} (h : X.K = K) (hl : PE X l tl) : PI X tg l (iSq K tl) := by
  subst h
  exact pi_sq hl
theorem steps_tup {K : PySem.W.Frag} {a : Addr} {xs : List V} {H0 : Hp} {Qd : Hp → Prop} {step : V → Hp → (Hp → Prop) → Prop} (Pv : Nat → Hp → Prop) (h0 : Pv 0 H0) (hl : ∀ i H, i ≤ xs.length → Pv i H → SqT K H a xs)
    (hs : ∀ i x H, xs[i]? = some x → Pv i H → step x H (Pv (i + 1))) (hd : ∀ H, Pv xs.length H → Qd H) :
    ∃ W : Nat → Nat → Hp → Prop, (∃ m, W 0 m H0) ∧ ∀ i m H, W i m H →
      ((Itt K a).stop i H ∧ Qd H) ∨ ((Itt K a).go i H ∧ ∃ N : Hp → Prop, (∀ H', N H' → ∃ m', m' < m ∧ W (i + 1) m' H') ∧ ∀ x H', (Itt K a).yld i H x H' → step x H' N) := by
  refine ⟨fun i m H => m + i = xs.length ∧ Pv i H, ⟨xs.length, rfl, h0⟩, ?_⟩
  rintro i m H ⟨hm, pv⟩
  have q := hl i H (by omega) pv
  rcases Nat.lt_or_ge i xs.length with h | h
  · have hx : xs[i]? = some xs[i] := List.getElem?_eq_getElem h
    refine .inr ⟨⟨xs, xs[i], q, hx⟩, Pv (i + 1), fun H' pv' => ⟨m - 1, by omega, by omega, pv'⟩, fun x H' y => ?_⟩
    obtain ⟨y1, y2⟩ := y
    subst y1
    exact hs i x _ (y2 xs q) pv
  · obtain rfl : i = xs.length := by omega
    exact .inl ⟨⟨xs, q, Nat.le_refl _⟩, hd H pv⟩
section
variable {K : PySem.W.Frag} {p : Addr} {xs : List V} {H : Hp} {g : TG} {tt : TT} {te : TE} {vs : List Nat} {σ : L2.St}
/-- a comprehension over a list or a tuple, by what stays -/
theorem lc_sqI {Qd : Addr → Hp → Prop} (hx : SqL K H p xs ∨ SqT K H p xs) (Pv : Addr → Nat → Hp → Prop) (h0 : ∀ D, H D = none → Pv D 0 (upd H D (.lst []))) (hE : ∀ D i H', H D = none → Pv D i H' → Ext H H')
    (hs : ∀ D i x H', H D = none → xs[i]? = some x → Pv D i H' → g x (wipe σ vs) H' fun σ2 H2 => wipe σ2 vs = wipe σ vs ∧ tt σ2 H2 fun b H3 =>
      if b = true then te σ2 H3 fun y H4 => ∃ acc, H4 D = some (.lst acc) ∧ acc.length < sizeLine ∧ Pv D (i + 1) (upd H4 D (.lst (acc ++ [y]))) else Pv D (i + 1) H3)
    (hd : ∀ D H', H D = none → Pv D xs.length H' → Qd D H') :
    ((∃ xs, SqL K H p xs) ∧ (fun J H1 => ∀ D, H1 D = none → ∃ W : Nat → Nat → Hp → Prop, (∃ m, W 0 m (upd H1 D (.lst []))) ∧ ∀ i m H, W i m H →
      (J.stop i H ∧ Qd D H) ∨ (J.go i H ∧ ∃ Nx : Hp → Prop, (∀ H', Nx H' → ∃ m', m' < m ∧ W (i + 1) m' H') ∧ ∀ x H', J.yld i H x H' → g x (wipe σ vs) H' fun σ2 H2 => wipe σ2 vs = wipe σ vs ∧ tt σ2 H2 fun b H3 =>
        if b = true then te σ2 H3 fun y H4 => ∃ acc, H4 D = some (.lst acc) ∧ acc.length < sizeLine ∧ Nx (upd H4 D (.lst (acc ++ [y]))) else Nx H3)) (Itl K p) H) ∨
    ((∃ xs, SqT K H p xs) ∧ (fun J H1 => ∀ D, H1 D = none → ∃ W : Nat → Nat → Hp → Prop, (∃ m, W 0 m (upd H1 D (.lst []))) ∧ ∀ i m H, W i m H →
      (J.stop i H ∧ Qd D H) ∨ (J.go i H ∧ ∃ Nx : Hp → Prop, (∀ H', Nx H' → ∃ m', m' < m ∧ W (i + 1) m' H') ∧ ∀ x H', J.yld i H x H' → g x (wipe σ vs) H' fun σ2 H2 => wipe σ2 vs = wipe σ vs ∧ tt σ2 H2 fun b H3 =>
        if b = true then te σ2 H3 fun y H4 => ∃ acc, H4 D = some (.lst acc) ∧ acc.length < sizeLine ∧ Nx (upd H4 D (.lst (acc ++ [y]))) else Nx H3)) (Itt K p) H) := by
  rcases hx with hx | hx
  · exact .inl ⟨⟨xs, hx⟩, fun D hD => lc_it (walk_list (xs := xs)) (Pv D) (h0 D hD) (fun i H' _ pv => hx.ext (hE D i H' hD pv)) (fun i x H' H2 hi pv hy => by obtain ⟨rfl, hxi⟩ := hy; exact hs D i x _ hD hxi pv) (fun H' pv => hd D H' hD pv)⟩
  · exact .inr ⟨⟨xs, hx⟩, fun D hD => lc_it (walk_tup (xs := xs)) (Pv D) (h0 D hD) (fun i H' _ pv => hx.ext (hE D i H' hD pv)) (fun i x H' H2 hi pv hy => by obtain ⟨rfl, hxi⟩ := hy; exact hs D i x _ hD hxi pv) (fun H' pv => hd D H' hD pv)⟩
end
/-- the rows that a mail is made of: each a row of letters -/
def rowsD : List PyData → List (List PyData)
  | [] => []
  | d :: ds => (itemsD d).getD [] :: rowsD ds
/-- data of tuples, texts and numbers stays where tuples stay -/
theorem str_keep {K : PySem.W.Frag} {H H' : Hp} {v : V} {d : PyData} (hd : nameD d = true) (h : Dp K H v d) : Dp K H' v d := by
  cases d <;> first | (cases hd; done) | skip
  cases h
  exact .str _
theorem strs_keep {K : PySem.W.Frag} {H H' : Hp} : ∀ {vs : List V} {ds : List PyData}, (∀ d ∈ ds, nameD d = true) → DpAll K H vs ds → DpAll K H' vs ds
  | [], _, _, h => by cases h; exact .nil
  | _ :: _, _, hd, h => by
    cases h with
    | cons a b => exact .cons (str_keep (hd _ List.mem_cons_self) a) (strs_keep (fun d hx => hd d (List.mem_cons_of_mem _ hx)) b)
theorem let_keep {K : PySem.W.Frag} {H H' : Hp} (tk : ∀ a xs, SqT K H a xs → SqT K H' a xs) {v : V} {d : PyData} (hl : letterD d = true) (h : Dp K H v d) : Dp K H' v d := by
  unfold letterD at hl
  split at hl
  · rename_i hs b
    rw [Bool.and_eq_true, Bool.and_eq_true] at hl
    cases h with
    | tup h1 h2 =>
      cases h2 with
      | cons a1 h2 =>
        cases h2 with
        | cons a2 h2 =>
          cases h2
          cases a1 with
          | tup b1 b2 =>
            refine .tup (tk _ _ h1) (.cons (.tup (tk _ _ b1) (strs_keep (List.all_eq_true.mp hl.2.1) b2)) (.cons ?_ .nil))
            obtain ⟨i, rfl, _, _⟩ := bet_yes hl.2.2
            cases a2
            exact .int _
  · cases hl
theorem lets_keep {K : PySem.W.Frag} {H H' : Hp} (tk : ∀ a xs, SqT K H a xs → SqT K H' a xs) : ∀ {vs : List V} {ds : List PyData}, (∀ d ∈ ds, letterD d = true) → DpAll K H vs ds → DpAll K H' vs ds
  | [], _, _, h => by cases h; exact .nil
  | _ :: _, _, hd, h => by
    cases h with
    | cons a b => exact .cons (let_keep tk (hd _ List.mem_cons_self) a) (lets_keep tk (fun d hx => hd d (List.mem_cons_of_mem _ hx)) b)
theorem rows_keep {K : PySem.W.Frag} {H H' : Hp} (tk : ∀ a xs, SqT K H a xs → SqT K H' a xs) : ∀ {vs : List V} {L : List (List PyData)}, (∀ r ∈ L, ∀ d ∈ r, letterD d = true) → DpAll K H vs (L.map PyData.tuple) → DpAll K H' vs (L.map PyData.tuple)
  | [], [], _, _ => .nil
  | [], _ :: _, _, h => by cases h
  | _ :: _, [], _, h => by cases h
  | _ :: _, r :: L, hd, h => by
    cases h with
    | cons a b =>
      cases a with
      | tup a1 a2 => exact .cons (.tup (tk _ _ a1) (lets_keep tk (hd r List.mem_cons_self) a2)) (rows_keep tk (fun r hr => hd r (List.mem_cons_of_mem _ hr)) b)
theorem rowsD_mem : ∀ {ds : List PyData} {r : List PyData}, r ∈ rowsD ds → ∃ x ∈ ds, r = (itemsD x).getD []
  | x :: ds, r, h => by
    rcases List.mem_cons.mp h with rfl | h
    · exact ⟨x, List.mem_cons_self, rfl⟩
    · obtain ⟨y, hy, e⟩ := rowsD_mem h
      exact ⟨y, List.mem_cons_of_mem _ hy, e⟩
theorem flat_len {L : List (List PyData)} (h : ∀ r ∈ L, r.length ≤ 6) : L.flatten.length ≤ 6 * L.length := by
  induction L with
  | nil => exact Nat.le_refl _
  | cons r L ih =>
    have h1 := h r List.mem_cons_self
    have h2 := ih fun r hr => h r (List.mem_cons_of_mem _ hr)
    rw [List.flatten_cons, List.length_append, List.length_cons]
    omega
theorem rowsD_len : ∀ ds : List PyData, (rowsD ds).length = ds.length
  | [] => rfl
  | _ :: ds => by
    have := rowsD_len ds
    show (rowsD ds).length + 1 = ds.length + 1
    omega
theorem rowsD_at : ∀ {ds : List PyData} {i : Nat} {x : PyData} {rs : List PyData}, ds[i]? = some x → itemsD x = some rs → (rowsD ds)[i]? = some rs
  | y :: ds, 0, x, rs, h, hi => by
    cases h
    show some ((itemsD y).getD []) = some rs
    rw [hi]; rfl
  | _ :: ds, i + 1, _, _, h, hi => rowsD_at (ds := ds) (i := i) h hi
theorem dps_snoc {K : PySem.W.Frag} {H : Hp} {v : V} {d : PyData} (hv : Dp K H v d) : ∀ {vs : List V} {ds : List PyData}, DpAll K H vs ds → DpAll K H (vs ++ [v]) (ds ++ [d])
  | [], _, h => by cases h; exact .cons hv .nil
  | _ :: _, _, h => by
    cases h with
    | cons a b => exact .cons a (dps_snoc hv b)
/-- a mail at m -/
def MailAt (K : PySem.W.Frag) (A : Ad) (H : Hp) (m : Addr) (L : List (List PyData)) : Prop := ∃ dx pr pl, H m = some (.ins A.Mail dx [("rows", .ref pr), ("letters", .ref pl)]) ∧ Dp K H (.ref pr) (.tuple (L.map PyData.tuple)) ∧ Dp K H (.ref pl) (.tuple L.flatten) ∧ ∀ r ∈ L, ∀ d ∈ r, letterD d = true
theorem MailAt.ext {K : PySem.W.Frag} {A : Ad} {H H' : Hp} {m : Addr} {L : List (List PyData)} (h : MailAt K A H m L) (e : Ext H H') : MailAt K A H' m L := by
  obtain ⟨dx, pr, pl, h1, h2, h3, h4⟩ := h
  exact ⟨dx, pr, pl, e _ _ h1, dp_ext e _ _ h2, dp_ext e _ _ h3, h4⟩
/-- a row that check_row takes -/
def okRow (d : PyData) : Bool := match itemsD d with
  | some ds => ds.all letterD && (decide (0 < ds.length) && decide (ds.length ≤ 6))
  | none => false
theorem okRow_is {d : PyData} (h : okRow d = true) : ∃ rs, itemsD d = some rs ∧ rs.all letterD = true ∧ 0 < rs.length ∧ rs.length ≤ 6 := by
  unfold okRow at h
  cases hi : itemsD d with
  | none => rw [hi] at h; cases h
  | some rs =>
    rw [hi] at h
    have h : (rs.all letterD && (decide (0 < rs.length) && decide (rs.length ≤ 6))) = true := h
    rw [Bool.and_eq_true, Bool.and_eq_true, decide_eq_true_eq, decide_eq_true_eq] at h
    exact ⟨rs, rfl, h.1, h.2.1, h.2.2⟩
theorem badL_no {rs : List PyData} (h : rs.all letterD = true) : badL rs = none := by
  unfold badL
  rw [List.findIdx?_eq_none_iff]
  intro d hd
  rw [List.all_eq_true.mp h d hd]; rfl
section
variable {P : Program} {w : World} {K : PySem.W.Frag} {mg : Str → Option Value} {base : Heap} {A : Ad}
theorem sqT_mut {H H' : Hp} {p a C dx : Addr} {fs : List (Str × V)} {xs : List V} (hp : H p = some (.ins C dx fs)) (e : ∀ x o, x ≠ p → H x = some o → H' x = some o) (h : SqT K H a xs) : SqT K H' a xs := by
  rcases h with (h | ⟨o, h⟩) | h
  · exact .inl (.inl (e a _ (fun z => by rw [z, hp] at h; cases h) h))
  · exact .inl (.inr ⟨o, e a _ (fun z => by rw [z, hp] at h; cases h) h⟩)
  · exact .inr h
theorem sqL_mut {H H' : Hp} {p a C dx : Addr} {fs : List (Str × V)} {xs : List V} (hp : H p = some (.ins C dx fs)) (e : ∀ x o, x ≠ p → H x = some o → H' x = some o) (h : SqL K H a xs) : SqL K H' a xs := by
  rcases h with (h | ⟨o, h⟩) | h
  · exact .inl (.inl (e a _ (fun z => by rw [z, hp] at h; cases h) h))
  · exact .inl (.inr ⟨o, e a _ (fun z => by rw [z, hp] at h; cases h) h⟩)
  · exact .inr h
mutual
theorem dp_mutI {H H' : Hp} {p C dx : Addr} {fs : List (Str × V)} (hp : H p = some (.ins C dx fs)) (e : ∀ x o, x ≠ p → H x = some o → H' x = some o) : ∀ {v : V} {d : PyData}, Dp K H v d → Dp K H' v d
  | _, _, .non => .non
  | _, _, .bl b => .bl b
  | _, _, .int i => .int i
  | _, _, .str x => .str x
  | _, _, .lst h1 h2 => .lst (sqL_mut hp e h1) (dps_mutI hp e h2)
  | _, _, .tup h1 h2 => .tup (sqT_mut hp e h1) (dps_mutI hp e h2)
theorem dps_mutI {H H' : Hp} {p C dx : Addr} {fs : List (Str × V)} (hp : H p = some (.ins C dx fs)) (e : ∀ x o, x ≠ p → H x = some o → H' x = some o) : ∀ {vs : List V} {ds : List PyData}, DpAll K H vs ds → DpAll K H' vs ds
  | _, _, .nil => .nil
  | _, _, .cons h t => .cons (dp_mutI hp e h) (dps_mutI hp e t)
end
theorem sqT_mutL {H H' : Hp} {D a : Addr} {ys xs : List V} (hD : H D = some (.lst ys)) (e : ∀ x o, x ≠ D → H x = some o → H' x = some o) (h : SqT K H a xs) : SqT K H' a xs := by
  rcases h with (h | ⟨o, h⟩) | h
  · exact .inl (.inl (e a _ (fun z => by rw [z, hD] at h; cases h) h))
  · exact .inl (.inr ⟨o, e a _ (fun z => by rw [z, hD] at h; cases h) h⟩)
  · exact .inr h
def spInitOk (K : PySem.W.Frag) (A : Ad) : Sp := fun vs H Q E => ∃ (p dx : Addr) (v : V) (d : PyData) (ds : List PyData), vs = [.ref p, v] ∧ H p = some (.ins A.Mail dx []) ∧ Dp K H v d ∧ itemsD d = some ds ∧ 0 < ds.length ∧ ds.length ≤ 3 ∧ (∀ r ∈ ds, okRow r = true ∧ ∀ rs, itemsD r = some rs → ∀ x ∈ rs, SmL x) ∧
  ∀ H', MailAt K A H' p (rowsD ds) → (∀ x o, x ≠ p → H x = some o → H' x = some o) → Q .non H'
theorem ok_initOk {f : Addr} {fd : FuncData} (F : Fun K "__init__" "Mail.__init__" s_Mail_init f fd) (T : Txt K mg A) (O_is_list : Own P w K mg base CX0 "is_list" 1 pm_is_list (spIsList K)) (O_check_row : Own P w K mg base (L2.CX P w) "check_row" 5 pm_check_row (spRow K A)) (X_BadPart : XCls P w K mg base "BadPart" "part" A.BadPart) (X_TooMany : OCls P w K mg base "TooMany" "limit" A.TooMany) : FnOk P w K mg base (L2.CX P w) 7 f fd pm_Mail_init (spInitOk K A) := by
  refine F.okX sc_Mail_init (fun vs H Q E h => ?_) (fun cdv A' outer sh H vs Q E hr h => ?_)
  · obtain ⟨_, _, _, _, _, rfl, _⟩ := h
    rfl
  · obtain ⟨p, dx, v, d, ds, rfl, hp, hd, hit, hl0, hl3, hrs, q⟩ := h
    refine ⟨_, pss_cons (ps_if (PW.pt (pw_or (pt_not (pt_val (pe_own O_is_list (hr.mono (by decide)) pass0 (pa_cons (pv 1) pa_nil)))) (pw_or1 (pt_cmpR op_eq (pe_callB call_len_seq (by rfl) T.n_len (by decide +kernel) (pa_cons (pv 1) pa_nil)) (pe_int) (nomark _))))) (pss_one (ps_raise rfl (takes_of rfl rfl rfl rfl) (pmk_X X_BadPart (hr.mono (by decide)) (pe_str) rfl))) (pss_nil))
      (pss_cons (ps_for (passes_of rfl) rfl (pi_enSq rfl T.n_enumerate (pa_cons (pv 1) pa_nil)) (pg_tup rfl (pgs_cons (pg_name (i := 2) sc_Mail_init.nd rfl (Or.inl rfl)) (pgs_cons (pg_name (i := 3) sc_Mail_init.nd rfl (Or.inl rfl)) (pgs_nil)))) (pss_one (ps_expr (pe_ownS O_check_row (hr.mono (by decide)) (takes_of rfl rfl rfl rfl) (pa_cons (pv 2) (pa_cons (pv 3) pa_nil))))))
      (pss_cons (ps_if (pt_cmpR op_gt (pe_callB call_len_seq (by rfl) T.n_len (by decide +kernel) (pa_cons (pv 1) pa_nil)) (pe_gint T.g_MOST_ROWS) (nomark _)) (pss_one (ps_raise rfl (takes_of rfl rfl rfl rfl) (pmk_O X_TooMany (hr.mono (by decide)) (pe_gint T.g_MOST_ROWS) rfl))) (pss_nil))
      (pss_cons (ps_fld (pv 0) (pe_callTy call_tuple_of (by rfl) T.n_tuple (by decide +kernel) (pa_cons (pe_lc (own := [("row", 3)]) (g := gName 3) (by rfl) sc_Mail_init.nd (pi_sq (pv 1)) (blkOk_by (own := [("row", 3)]) (N := nm_Mail_init) (sc := defScope s_Mail_init) (by decide +kernel)) (fun _ _ _ _ _ => pg_name (i := 3) sc_Mail_init.nd rfl (Or.inl rfl)) (fun s1 H1 C1 cl fp => pts_nil) (fun s1 H1 C1 cl fp => pe_callTy (call_tuple_ofK (K := K) rfl) (by rfl) T.n_tuple (by decide +kernel) (pa_cons (pv 3) pa_nil))) pa_nil)) rfl)
      (pss_one (ps_fld (pv 0) (pe_callTy call_tuple_of (by rfl) T.n_tuple (by decide +kernel) (pa_cons (pe_lc2 (own := [("row", 3), ("letter", 4)]) (vs1 := [4]) (g := gName 3) (g1 := gName 4) (by rfl) sc_Mail_init.nd (pi_sq (pv 1)) (blkOk_by (own := [("row", 3), ("letter", 4)]) (N := nm_Mail_init) (sc := defScope s_Mail_init) (by decide +kernel)) (by decide) (fun s1 H1 C1 cl fp => pg_name (i := 3) sc_Mail_init.nd rfl (Or.inl rfl)) (fun s1 H1 C1 cl fp => pts_nil) (fun s1 H1 C1 cl fp => pi_sqK (K := K) rfl (pv 3)) (fun s1 H1 C1 cl fp => pg_name (i := 4) sc_Mail_init.nd rfl (Or.inl rfl)) (fun s1 H1 C1 cl fp => pts_nil) (fun s1 H1 C1 cl fp => pv 4)) pa_nil)) rfl))))), ?_⟩
    have h1 : isSeqD d = true := by cases d <;> first | rfl | cases hit
    refine ⟨v, rfl, v, .type (tnD d), isSeqD d, rfl, fun H' e => dp_ty (dp_ext e _ _ hd), by rw [kd_seq], fun H1 x1 => ⟨_, rfl, ?_⟩⟩
    rw [h1]
    obtain ⟨r, xs, ds', rfl, hx, ha, hdd⟩ := dp_seq (dp_ext x1 _ _ hd) h1
    have hds : ds' = ds := by
      rcases hdd with rfl | rfl
      · exact Option.some.inj hit
      · exact Option.some.inj hit
    subst hds
    have hxl := dps_len ha
    refine iteF ⟨_, rfl, r, xs, rfl, hx, rfl, _, rfl, ?_⟩
    rw [dvi, hxl, decide_eq_false (by omega)]
    refine iteF ⟨_, rfl, r, rfl, ?_⟩
    refine for_enSq (xs := xs) hx (fun i σ' H' => Ext H1 H' ∧ ∃ o1 o2, σ' = [some (.ref p), some (.ref r), o1, o2, none]) ⟨Ext.rfl', _, _, rfl⟩ (fun i σ' H' pv => pv.1) (fun i u σ' H' T' hi pv hT => ?_) (fun σ' H' pv => ?_)
    · obtain ⟨x2, o1, o2, rfl⟩ := pv
      refine ⟨T', _, rfl, SqT.of upd_same, rfl, _, _, rfl, _, _, rfl, rfl, ?_⟩
      have x3 := x2.upd' (o := .tup [.int (i : Nat), u]) hT
      obtain ⟨d0, hdi, hdv⟩ := dps_get (dps_ext x3 _ _ ha) hi
      obtain ⟨hok, hsm⟩ := hrs d0 (List.mem_of_getElem? hdi)
      obtain ⟨rs, hri, hall, hr0, hr6⟩ := okRow_is hok
      refine ⟨_, rfl, _, rfl, ⟨(i : Int), u, d0, rfl, .inl hdv, fun ds h => ?_, fun h => ?_, fun ds j h1 h2 => ?_, fun ds h1 h2 h3 => ?_, fun ds h1 h2 _ _ H5 e5 => ⟨x3.trans e5, _, _, rfl⟩⟩⟩
      · rw [hri] at h
        cases h
        exact ⟨by omega, hsm rs hri⟩
      · rcases h with h | h
        · cases d0 <;> first | (cases h; done) | cases hri
        · rw [hri] at h
          cases h
          cases hr0
      · rw [hri] at h1
        cases h1
        rw [badL_no hall] at h2
        cases h2
      · rw [hri] at h1
        cases h1
        omega
    obtain ⟨x2, o1, o2, rfl⟩ := pv
    have hx2 : SqL K H' r xs ∨ SqT K H' r xs := by
      rcases hx with hx | hx
      · exact .inl (hx.ext x2)
      · exact .inr (hx.ext x2)
    have ha2 := dps_ext x2 _ _ ha
    have e2 := x1.trans x2
    refine ⟨_, rfl, r, xs, rfl, hx2, _, _, rfl, rfl, _, rfl, ?_⟩
    rw [hxl, decide_eq_false (by omega)]
    have hp2 := e2 _ _ hp
    have hlets : ∀ r ∈ rowsD ds', ∀ d ∈ r, letterD d = true := fun r hr d hd => by
      obtain ⟨x, hx, rfl⟩ := rowsD_mem hr
      obtain ⟨rs, hi, hall, _⟩ := okRow_is (hrs x hx).1
      rw [hi] at hd
      exact List.all_eq_true.mp hall d hd
    refine iteF ⟨_, rfl, r, rfl, lc_sqI hx2 (fun D i J => ∃ ys, Ext H' J ∧ J D = some (.lst ys) ∧ ys.length = i ∧ DpAll K J ys (((rowsD ds').take i).map PyData.tuple)) (fun D hD => ⟨[], Ext.upd hD, upd_same, rfl, .nil⟩) (fun D i J hD pv => by obtain ⟨_, e, _⟩ := pv; exact e) (fun D i x J hD hi pv => ?_) (fun D J hD pv => ?_)⟩
    · obtain ⟨ys, eJ, hDJ, hyl, hys⟩ := pv
      obtain ⟨d0, hdi, hdv⟩ := dps_get (dps_ext eJ _ _ ha2) hi
      have hmem := List.mem_of_getElem? hdi
      obtain ⟨rs, hri, hall, hr0, hr6⟩ := okRow_is (hrs d0 hmem).1
      have hsq : isSeqD d0 = true := by cases d0 <;> first | rfl | cases hri
      obtain ⟨a0, zs, ds0, rfl, hz, hza, hd0⟩ := dp_seq hdv hsq
      have hds0 : ds0 = rs := by
        rcases hd0 with rfl | rfl
        · exact Option.some.inj hri
        · exact Option.some.inj hri
      subst hds0
      have hri' : (rowsD ds')[i]? = some ds0 := rowsD_at hdi hri
      have fin : ∀ {J2 : Hp} {y : V}, Ext J J2 → J2 D = some (.lst ys) → Dp K J2 y (.tuple ds0) → ∃ acc, J2 D = some (.lst acc) ∧ acc.length < sizeLine ∧ ∃ ys, Ext H' (upd J2 D (.lst (acc ++ [y]))) ∧ upd J2 D (.lst (acc ++ [y])) D = some (.lst ys) ∧ ys.length = i + 1 ∧ DpAll K (upd J2 D (.lst (acc ++ [y]))) ys (((rowsD ds').take (i + 1)).map PyData.tuple) := fun {J2 y} e2' hD2 hy => by
        refine ⟨ys, hD2, small_sz (by have := (List.getElem?_eq_some_iff.mp hi).1; omega), ys ++ [y], ext_mut (eJ.trans e2') hD, upd_same, by rw [List.length_append, hyl]; rfl, ?_⟩
        refine rows_keep (H := J2) (fun a zs h => sqT_mutL hD2 (fun x o hx ho => by rw [upd_ne hx]; exact ho) h) (fun r hr => hlets r (List.mem_of_mem_take hr)) ?_
        rw [L2.take_snoc hri', List.map_append]
        exact dps_snoc hy (dps_ext e2' _ _ hys)
      refine ⟨rfl, _, rfl, a0, zs, rfl, ?_⟩
      rcases hz with hz | hz
      · exact .inl ⟨hz, fun l hl => fin (Ext.upd hl) (Ext.upd hl _ _ hDJ) (.tup (SqT.of upd_same) (dps_ext (Ext.upd hl) _ _ hza))⟩
      · exact .inr ⟨hz, fin Ext.rfl' hDJ (.tup hz hza)⟩
    obtain ⟨ys, eJ, hDJ, hyl, hys⟩ := pv
    rw [List.take_of_length_le (by rw [hxl, rowsD_len]; exact Nat.le_refl _)] at hys
    refine ⟨D, ys, rfl, .inl ⟨SqL.of hDJ, fun l hl => ?_⟩⟩
    have el := Ext.upd (o := .tup ys) hl
    have ml : upd J l (.tup ys) l = some (.tup ys) := upd_same
    have hpJ := (eJ.trans el) _ _ (e2 _ _ hp)
    refine ⟨_, rfl, p, A.Mail, dx, _, rfl, hpJ, T.Mail.cl, T.m_rows, (by show 0 < 1000; decide), ?_⟩
    have kp : ∀ x o, x ≠ p → upd J l (.tup ys) x = some o → upd (upd J l (.tup ys)) p (.ins A.Mail dx (putF "rows" (V.ref l) [])) x = some o := fun x o hx ho => by rw [upd_ne hx]; exact ho
    have hx3 : SqL K (upd (upd J l (.tup ys)) p (.ins A.Mail dx (putF "rows" (V.ref l) []))) r xs ∨ SqT K (upd (upd J l (.tup ys)) p (.ins A.Mail dx (putF "rows" (V.ref l) []))) r xs := by
      rcases hx2 with h | h
      · exact .inl (sqL_mut hpJ kp (h.ext (eJ.trans el)))
      · exact .inr (sqT_mut hpJ kp (h.ext (eJ.trans el)))
    have ha3 := dps_mutI hpJ kp (dps_ext (eJ.trans el) _ _ ha2)
    have hnJ : l ≠ p := fun z => by rw [z] at hl; rw [(eJ) _ _ hp2] at hl; cases hl
    have hG1 : upd (upd J l (.tup ys)) p (.ins A.Mail dx (putF "rows" (V.ref l) [])) l = some (.tup ys) := kp l _ hnJ ml
    have hG2 : upd (upd J l (.tup ys)) p (.ins A.Mail dx (putF "rows" (V.ref l) [])) p = some (.ins A.Mail dx [("rows", .ref l)]) := upd_same
    have hrw : DpAll K (upd (upd J l (.tup ys)) p (.ins A.Mail dx (putF "rows" (V.ref l) []))) ys ((rowsD ds').map PyData.tuple) := dps_mutI hpJ kp (dps_ext el _ _ hys)
    have hkp : ∀ x o, x ≠ p → H x = some o → upd (upd J l (.tup ys)) p (.ins A.Mail dx (putF "rows" (V.ref l) [])) x = some o := fun x o hx ho => kp x o hx ((eJ.trans el) _ _ (e2 _ _ ho))
    clear kp hpJ ml el hl hDJ hyl hys eJ ha2 hx2 x2 hx ha x1
    generalize upd (upd J l (.tup ys)) p (.ins A.Mail dx (putF "rows" (V.ref l) [])) = G at hx3 ha3 hG1 hG2 hrw hkp ⊢
    refine ⟨_, rfl, r, rfl, ?_⟩
    have hr6' : ∀ r ∈ rowsD ds', r.length ≤ 6 := fun r hr => by
      obtain ⟨x, hx, rfl⟩ := rowsD_mem hr
      obtain ⟨rs, hi, _, _, h6⟩ := okRow_is (hrs x hx).1
      rw [hi]
      exact h6
    rcases hx3 with hx3 | hx3
    · refine .inl ⟨⟨xs, hx3⟩, fun C hC => steps_list (xs := xs) (fun i J => ∃ zs, Ext G J ∧ J C = some (.lst zs) ∧ DpAll K J zs ((rowsD ds').take i).flatten) ⟨[], Ext.upd hC, upd_same, .nil⟩ (fun i J _ pv => by obtain ⟨_, e, _⟩ := pv; exact hx3.ext e) (fun i x J hi pv => ?_) (fun J pv => ?_)⟩
      · obtain ⟨us, eJ, hCJ, hus⟩ := pv
        obtain ⟨d0, hdi, hdv⟩ := dps_get ha3 hi
        have hmem := List.mem_of_getElem? hdi
        obtain ⟨rs, hri, hall, hr0, hr6⟩ := okRow_is (hrs d0 hmem).1
        have hsq : isSeqD d0 = true := by cases d0 <;> first | rfl | cases hri
        obtain ⟨a0, zs, ds0, rfl, hz, hza, hd0⟩ := dp_seq hdv hsq
        have hds0 : ds0 = rs := by
          rcases hd0 with rfl | rfl
          · exact Option.some.inj hri
          · exact Option.some.inj hri
        subst hds0
        have hri' : (rowsD ds')[i]? = some ds0 := rowsD_at hdi hri
        refine ⟨rfl, _, rfl, a0, rfl, ?_⟩
        rcases hz with hz | hz
        · refine .inl ⟨⟨zs, hz.ext eJ⟩, steps_list (xs := zs) (fun j J2 => ∃ us, Ext G J2 ∧ J2 C = some (.lst us) ∧ DpAll K J2 us (((rowsD ds').take i).flatten ++ ds0.take j)) ⟨us, eJ, hCJ, by rw [List.take_zero, List.append_nil]; exact hus⟩ (fun j J2 _ pv => by obtain ⟨_, e, _⟩ := pv; exact hz.ext e) (fun j u J2 hj pv => ?_) (fun J2 pv => ?_)⟩
          · obtain ⟨us2, eJ2, hC2, hus2⟩ := pv
            obtain ⟨du, hdu, hdd⟩ := dps_get (dps_ext eJ2 _ _ hza) hj
            have hul := dps_len hus2
            have hfl := flat_len (L := (rowsD ds').take i) fun r hr => hr6' r (List.mem_of_mem_take hr)
            have htl := List.length_take_le' j ds0
            have hti := List.length_take_le' i (rowsD ds')
            rw [List.length_append] at hul
            refine ⟨rfl, u, rfl, us2, hC2, small_sz (by rw [rowsD_len] at hti; omega), us2 ++ [u], ext_mut eJ2 hC, upd_same, ?_⟩
            refine lets_keep (H := J2) (fun a zs h => sqT_mutL hC2 (fun x o hx ho => by rw [upd_ne hx]; exact ho) h) (fun z hz => ?_) ?_
            · rcases List.mem_append.mp hz with hz | hz
              · obtain ⟨r, hr, hz⟩ := List.mem_flatten.mp hz
                exact hlets r (List.mem_of_mem_take hr) z hz
              · exact List.all_eq_true.mp hall z (List.mem_of_mem_take hz)
            · rw [L2.take_snoc hdu, ← List.append_assoc]
              exact dps_snoc hdd hus2
          · obtain ⟨us2, eJ2, hC2, hus2⟩ := pv
            refine ⟨us2, eJ2, hC2, ?_⟩
            rw [L2.take_snoc hri', List.flatten_append]
            rw [List.take_of_length_le (l := ds0) (by rw [dps_len hza]; exact Nat.le_refl _)] at hus2
            show DpAll K J2 us2 (((rowsD ds').take i).flatten ++ (ds0 ++ []))
            rw [List.append_nil]
            exact hus2
        · refine .inr ⟨⟨zs, hz.ext eJ⟩, steps_tup (xs := zs) (fun j J2 => ∃ us, Ext G J2 ∧ J2 C = some (.lst us) ∧ DpAll K J2 us (((rowsD ds').take i).flatten ++ ds0.take j)) ⟨us, eJ, hCJ, by rw [List.take_zero, List.append_nil]; exact hus⟩ (fun j J2 _ pv => by obtain ⟨_, e, _⟩ := pv; exact hz.ext e) (fun j u J2 hj pv => ?_) (fun J2 pv => ?_)⟩
          · obtain ⟨us2, eJ2, hC2, hus2⟩ := pv
            obtain ⟨du, hdu, hdd⟩ := dps_get (dps_ext eJ2 _ _ hza) hj
            have hul := dps_len hus2
            have hfl := flat_len (L := (rowsD ds').take i) fun r hr => hr6' r (List.mem_of_mem_take hr)
            have htl := List.length_take_le' j ds0
            have hti := List.length_take_le' i (rowsD ds')
            rw [List.length_append] at hul
            refine ⟨rfl, u, rfl, us2, hC2, small_sz (by rw [rowsD_len] at hti; omega), us2 ++ [u], ext_mut eJ2 hC, upd_same, ?_⟩
            refine lets_keep (H := J2) (fun a zs h => sqT_mutL hC2 (fun x o hx ho => by rw [upd_ne hx]; exact ho) h) (fun z hz => ?_) ?_
            · rcases List.mem_append.mp hz with hz | hz
              · obtain ⟨r, hr, hz⟩ := List.mem_flatten.mp hz
                exact hlets r (List.mem_of_mem_take hr) z hz
              · exact List.all_eq_true.mp hall z (List.mem_of_mem_take hz)
            · rw [L2.take_snoc hdu, ← List.append_assoc]
              exact dps_snoc hdd hus2
          · obtain ⟨us2, eJ2, hC2, hus2⟩ := pv
            refine ⟨us2, eJ2, hC2, ?_⟩
            rw [L2.take_snoc hri', List.flatten_append]
            rw [List.take_of_length_le (l := ds0) (by rw [dps_len hza]; exact Nat.le_refl _)] at hus2
            show DpAll K J2 us2 (((rowsD ds').take i).flatten ++ (ds0 ++ []))
            rw [List.append_nil]
            exact hus2
      · obtain ⟨us, eJ, hCJ, hus⟩ := pv
        rw [List.take_of_length_le (by rw [hxl, rowsD_len]; exact Nat.le_refl _)] at hus
        refine ⟨C, us, rfl, .inl ⟨SqL.of hCJ, fun l2 hl2 => ?_⟩⟩
        have e3 := eJ.trans (Ext.upd (o := .tup us) hl2)
        have hpl2 : p ≠ l2 := fun z => by rw [← z] at hl2; rw [eJ _ _ hG2] at hl2; cases hl2
        refine ⟨_, rfl, p, A.Mail, dx, _, rfl, e3 _ _ hG2, T.Mail.cl, T.m_letters, (by show 1 < 1000; decide), ?_⟩
        have hp3 := e3 _ _ hG2
        have kq : ∀ x o, x ≠ p → upd J l2 (.tup us) x = some o → upd (upd J l2 (.tup us)) p (.ins A.Mail dx (putF "letters" (V.ref l2) [("rows", .ref l)])) x = some o := fun x o hx ho => by rw [upd_ne hx]; exact ho
        refine q _ ⟨dx, l, l2, upd_same, dp_mutI hp3 kq (.tup (SqT.of (e3 _ _ hG1)) (dps_ext e3 _ _ hrw)), dp_mutI hp3 kq (.tup (SqT.of upd_same) (dps_ext (Ext.upd hl2) _ _ hus)), hlets⟩ fun x o hx ho => kq x o hx (e3 _ _ (hkp x o hx ho))
    · refine .inr ⟨⟨xs, hx3⟩, fun C hC => steps_tup (xs := xs) (fun i J => ∃ zs, Ext G J ∧ J C = some (.lst zs) ∧ DpAll K J zs ((rowsD ds').take i).flatten) ⟨[], Ext.upd hC, upd_same, .nil⟩ (fun i J _ pv => by obtain ⟨_, e, _⟩ := pv; exact hx3.ext e) (fun i x J hi pv => ?_) (fun J pv => ?_)⟩
      · obtain ⟨us, eJ, hCJ, hus⟩ := pv
        obtain ⟨d0, hdi, hdv⟩ := dps_get ha3 hi
        have hmem := List.mem_of_getElem? hdi
        obtain ⟨rs, hri, hall, hr0, hr6⟩ := okRow_is (hrs d0 hmem).1
        have hsq : isSeqD d0 = true := by cases d0 <;> first | rfl | cases hri
        obtain ⟨a0, zs, ds0, rfl, hz, hza, hd0⟩ := dp_seq hdv hsq
        have hds0 : ds0 = rs := by
          rcases hd0 with rfl | rfl
          · exact Option.some.inj hri
          · exact Option.some.inj hri
        subst hds0
        have hri' : (rowsD ds')[i]? = some ds0 := rowsD_at hdi hri
        refine ⟨rfl, _, rfl, a0, rfl, ?_⟩
        rcases hz with hz | hz
        · refine .inl ⟨⟨zs, hz.ext eJ⟩, steps_list (xs := zs) (fun j J2 => ∃ us, Ext G J2 ∧ J2 C = some (.lst us) ∧ DpAll K J2 us (((rowsD ds').take i).flatten ++ ds0.take j)) ⟨us, eJ, hCJ, by rw [List.take_zero, List.append_nil]; exact hus⟩ (fun j J2 _ pv => by obtain ⟨_, e, _⟩ := pv; exact hz.ext e) (fun j u J2 hj pv => ?_) (fun J2 pv => ?_)⟩
          · obtain ⟨us2, eJ2, hC2, hus2⟩ := pv
            obtain ⟨du, hdu, hdd⟩ := dps_get (dps_ext eJ2 _ _ hza) hj
            have hul := dps_len hus2
            have hfl := flat_len (L := (rowsD ds').take i) fun r hr => hr6' r (List.mem_of_mem_take hr)
            have htl := List.length_take_le' j ds0
            have hti := List.length_take_le' i (rowsD ds')
            rw [List.length_append] at hul
            refine ⟨rfl, u, rfl, us2, hC2, small_sz (by rw [rowsD_len] at hti; omega), us2 ++ [u], ext_mut eJ2 hC, upd_same, ?_⟩
            refine lets_keep (H := J2) (fun a zs h => sqT_mutL hC2 (fun x o hx ho => by rw [upd_ne hx]; exact ho) h) (fun z hz => ?_) ?_
            · rcases List.mem_append.mp hz with hz | hz
              · obtain ⟨r, hr, hz⟩ := List.mem_flatten.mp hz
                exact hlets r (List.mem_of_mem_take hr) z hz
              · exact List.all_eq_true.mp hall z (List.mem_of_mem_take hz)
            · rw [L2.take_snoc hdu, ← List.append_assoc]
              exact dps_snoc hdd hus2
          · obtain ⟨us2, eJ2, hC2, hus2⟩ := pv
            refine ⟨us2, eJ2, hC2, ?_⟩
            rw [L2.take_snoc hri', List.flatten_append]
            rw [List.take_of_length_le (l := ds0) (by rw [dps_len hza]; exact Nat.le_refl _)] at hus2
            show DpAll K J2 us2 (((rowsD ds').take i).flatten ++ (ds0 ++ []))
            rw [List.append_nil]
            exact hus2
        · refine .inr ⟨⟨zs, hz.ext eJ⟩, steps_tup (xs := zs) (fun j J2 => ∃ us, Ext G J2 ∧ J2 C = some (.lst us) ∧ DpAll K J2 us (((rowsD ds').take i).flatten ++ ds0.take j)) ⟨us, eJ, hCJ, by rw [List.take_zero, List.append_nil]; exact hus⟩ (fun j J2 _ pv => by obtain ⟨_, e, _⟩ := pv; exact hz.ext e) (fun j u J2 hj pv => ?_) (fun J2 pv => ?_)⟩
          · obtain ⟨us2, eJ2, hC2, hus2⟩ := pv
            obtain ⟨du, hdu, hdd⟩ := dps_get (dps_ext eJ2 _ _ hza) hj
            have hul := dps_len hus2
            have hfl := flat_len (L := (rowsD ds').take i) fun r hr => hr6' r (List.mem_of_mem_take hr)
            have htl := List.length_take_le' j ds0
            have hti := List.length_take_le' i (rowsD ds')
            rw [List.length_append] at hul
            refine ⟨rfl, u, rfl, us2, hC2, small_sz (by rw [rowsD_len] at hti; omega), us2 ++ [u], ext_mut eJ2 hC, upd_same, ?_⟩
            refine lets_keep (H := J2) (fun a zs h => sqT_mutL hC2 (fun x o hx ho => by rw [upd_ne hx]; exact ho) h) (fun z hz => ?_) ?_
            · rcases List.mem_append.mp hz with hz | hz
              · obtain ⟨r, hr, hz⟩ := List.mem_flatten.mp hz
                exact hlets r (List.mem_of_mem_take hr) z hz
              · exact List.all_eq_true.mp hall z (List.mem_of_mem_take hz)
            · rw [L2.take_snoc hdu, ← List.append_assoc]
              exact dps_snoc hdd hus2
          · obtain ⟨us2, eJ2, hC2, hus2⟩ := pv
            refine ⟨us2, eJ2, hC2, ?_⟩
            rw [L2.take_snoc hri', List.flatten_append]
            rw [List.take_of_length_le (l := ds0) (by rw [dps_len hza]; exact Nat.le_refl _)] at hus2
            show DpAll K J2 us2 (((rowsD ds').take i).flatten ++ (ds0 ++ []))
            rw [List.append_nil]
            exact hus2
      · obtain ⟨us, eJ, hCJ, hus⟩ := pv
        rw [List.take_of_length_le (by rw [hxl, rowsD_len]; exact Nat.le_refl _)] at hus
        refine ⟨C, us, rfl, .inl ⟨SqL.of hCJ, fun l2 hl2 => ?_⟩⟩
        have e3 := eJ.trans (Ext.upd (o := .tup us) hl2)
        have hpl2 : p ≠ l2 := fun z => by rw [← z] at hl2; rw [eJ _ _ hG2] at hl2; cases hl2
        refine ⟨_, rfl, p, A.Mail, dx, _, rfl, e3 _ _ hG2, T.Mail.cl, T.m_letters, (by show 1 < 1000; decide), ?_⟩
        have hp3 := e3 _ _ hG2
        have kq : ∀ x o, x ≠ p → upd J l2 (.tup us) x = some o → upd (upd J l2 (.tup us)) p (.ins A.Mail dx (putF "letters" (V.ref l2) [("rows", .ref l)])) x = some o := fun x o hx ho => by rw [upd_ne hx]; exact ho
        refine q _ ⟨dx, l, l2, upd_same, dp_mutI hp3 kq (.tup (SqT.of (e3 _ _ hG1)) (dps_ext e3 _ _ hrw)), dp_mutI hp3 kq (.tup (SqT.of upd_same) (dps_ext (Ext.upd hl2) _ _ hus)), hlets⟩ fun x o hx ho => kq x o hx (e3 _ _ (hkp x o hx ho))
end
end K02

set_option Elab.async false
set_option maxRecDepth 100000
set_option maxHeartbeats 4000000
namespace K02
open PySem PySem.Spec PyProof.Rows L2
theorem tup_dp {K : PySem.W.Frag} {H : Hp} {a : Addr} {ds : List PyData} (h : Dp K H (.ref a) (.tuple ds)) : ∃ xs, SqT K H a xs ∧ DpAll K H xs ds := by
  cases h with
  | tup h1 h2 => exact ⟨_, h1, h2⟩
section
variable {P : Program} {w : World} {K : PySem.W.Frag} {mg : Str → Option Value} {base : Heap} {A : Ad}
def spMLen (K : PySem.W.Frag) (A : Ad) : Sp := fun vs H Q _ => ∃ m L, vs = [.ref m] ∧ MailAt K A H m L ∧ Q (.int (L.flatten.length : Nat)) H
theorem ok_mlen {f : Addr} {fd : FuncData} (F : Fun K "__len__" "Mail.__len__" s_Mail_len f fd) (T : Txt K mg A) : FnOk P w K mg base CX0 1 f fd pm_Mail_len (spMLen K A) := by
  refine F.ok sc_Mail_len (fun vs H Q E h => ?_) (fun cdv A' outer sh H vs Q E hr h => ?_)
  · obtain ⟨_, _, rfl, _⟩ := h
    rfl
  · obtain ⟨m, L, rfl, ⟨dx, pr, pl, hm, hpr, hpl, _⟩, q⟩ := h
    refine ⟨_, pss_one (ps_ret (pe_callB call_len_seq (by rfl) T.n_len (by decide +kernel) (pa_cons (pe_fld (pv 0) rfl) pa_nil))), ?_⟩
    obtain ⟨xs, hx, ha⟩ := tup_dp hpl
    rw [← dps_len ha] at q
    exact ⟨_, rfl, m, A.Mail, dx, _, _, rfl, hm, T.Mail.cl, T.m_letters, rfl, pl, xs, rfl, .inr hx, q⟩
def spLetTold (K : PySem.W.Frag) (A : Ad) : Sp := fun vs H Q _ => ∃ m L, vs = [.ref m] ∧ MailAt K A H m L ∧ ∀ l xs H', Ext H H' → H l = none → H' l = some (.lst xs) → DpAll K H' xs L.flatten → Q (.ref l) H'
theorem ok_letTold {f : Addr} {fd : FuncData} (F : Fun K "letters_told" "Mail.letters_told" s_Mail_letters_told f fd) (T : Txt K mg A) : FnOk P w K mg base CX0 1 f fd pm_Mail_letters_told (spLetTold K A) := by
  refine F.ok sc_Mail_letters_told (fun vs H Q E h => ?_) (fun cdv A' outer sh H vs Q E hr h => ?_)
  · obtain ⟨_, _, rfl, _⟩ := h
    rfl
  · obtain ⟨m, L, rfl, ⟨dx, pr, pl, hm, hpr, hpl, _⟩, q⟩ := h
    refine ⟨_, pss_one (ps_ret (pe_callTy call_list_of (by rfl) T.n_list (by decide +kernel) (pa_cons (pe_fld (pv 0) rfl) pa_nil))), ?_⟩
    obtain ⟨xs, hx, ha⟩ := tup_dp hpl
    exact ⟨_, rfl, m, A.Mail, dx, _, _, rfl, hm, T.Mail.cl, T.m_letters, rfl, pl, xs, rfl, .inr hx, fun l hl => q l xs _ (Ext.upd hl) hl upd_same (dps_ext (Ext.upd hl) _ _ ha)⟩
def spGet (K : PySem.W.Frag) (A : Ad) : Sp := fun vs H Q _ => ∃ (m : Addr) (L : List (List PyData)) (i : Nat) (d : PyData), vs = [.ref m, .int (i : Nat)] ∧ MailAt K A H m L ∧ L.flatten[i]? = some d ∧ ∀ v, Dp K H v d → Q v H
theorem ok_get {f : Addr} {fd : FuncData} (F : Fun K "__getitem__" "Mail.__getitem__" s_Mail_getitem f fd) (T : Txt K mg A) (O_is_index : Own P w K mg base CX0 "is_index" 3 pm_is_index (spIndex K)) (X_BadIndex : XCls P w K mg base "BadIndex" "index" A.BadIndex) : FnOk P w K mg base (L2.CX P w) 5 f fd pm_Mail_getitem (spGet K A) := by
  refine F.okX sc_Mail_getitem (fun vs H Q E h => ?_) (fun cdv A' outer sh H vs Q E hr h => ?_)
  · obtain ⟨_, _, _, _, rfl, _⟩ := h
    rfl
  · obtain ⟨m, L, i, d, rfl, ⟨dx, pr, pl, hm, hpr, hpl, _⟩, hd, q⟩ := h
    refine ⟨_, pss_cons (ps_if (pt_not (pt_val (pe_own O_is_index (hr.mono (by decide)) pass0 (pa_cons (pv 1) (pa_cons (pe_callB call_len_seq (by rfl) T.n_len (by decide +kernel) (pa_cons (pe_fld (pv 0) rfl) pa_nil)) pa_nil))))) (pss_one (ps_raise rfl (takes_of rfl rfl rfl rfl) (pmk_X X_BadIndex (hr.mono (by decide)) (pv 1) rfl))) (pss_nil))
      (pss_one (ps_ret (pe_ix ix_tup (pe_fld (pv 0) rfl) (pv 1) (fun _ _ => rfl)))), ?_⟩
    obtain ⟨xs, hx, ha⟩ := tup_dp hpl
    have hl := dps_len ha
    have hi := (List.getElem?_eq_some_iff.mp hd).1
    obtain ⟨v, hv⟩ : ∃ v, xs[i]? = some v := ⟨_, List.getElem?_eq_getElem (by omega)⟩
    obtain ⟨d2, hd2, hdv⟩ := dps_get ha hv
    rw [hd] at hd2
    cases hd2
    refine ⟨_, rfl, _, rfl, m, A.Mail, dx, _, _, rfl, hm, T.Mail.cl, T.m_letters, rfl, pl, xs, rfl, .inr hx, _, .int (i : Int), _, rfl, .int _, _, rfl, ?_⟩
    have hb : betD (.int (i : Int)) 0 ((xs.length : Int) - 1) = true := by
      rw [bet_int, decide_eq_true (show (0 : Int) ≤ (i : Int) by omega), decide_eq_true (show (i : Int) ≤ (xs.length : Int) - 1 by omega)]; rfl
    rw [hb]
    exact iteF ⟨_, rfl, m, A.Mail, dx, _, _, rfl, hm, T.Mail.cl, T.m_letters, rfl, _, rfl, pl, xs, (i : Int), v, rfl, rfl, hx, atI_nat hv, q v hdv⟩
end
end K02

set_option Elab.async false
set_option maxRecDepth 100000
set_option maxHeartbeats 4000000
namespace K02
open PySem PySem.Spec PyProof.Rows L2
/-- new lists at xs, one for each row, each its own -/
structure NewRows (K : PySem.W.Frag) (H0 H : Hp) (xs : List V) (L : List (List PyData)) : Prop where
  len : xs.length = L.length
  at_ : ∀ (i : Nat) (r : List PyData), L[i]? = some r → ∃ a ys, xs[i]? = some (.ref a) ∧ H0 a = none ∧ H a = some (.lst ys) ∧ DpAll K H ys r
  one : ∀ (i j : Nat) (a : Addr), xs[i]? = some (.ref a) → xs[j]? = some (.ref a) → i = j
theorem tup_at {K : PySem.W.Frag} {H : Hp} {x : V} {r : List PyData} (h : Dp K H x (.tuple r)) : ∃ a ys, x = .ref a ∧ SqT K H a ys ∧ DpAll K H ys r := by
  cases h with
  | tup h1 h2 => exact ⟨_, _, rfl, h1, h2⟩
section
variable {P : Program} {w : World} {K : PySem.W.Frag} {mg : Str → Option Value} {base : Heap} {A : Ad}
def spRowsTold (K : PySem.W.Frag) (A : Ad) : Sp := fun vs H Q _ => ∃ m L, vs = [.ref m] ∧ MailAt K A H m L ∧ L.length ≤ 3 ∧ ∀ l xs H', Ext H H' → H l = none → H' l = some (.lst xs) → (∀ i : Nat, xs[i]? ≠ some (V.ref l)) → NewRows K H H' xs L → Q (.ref l) H'
end
end K02

set_option Elab.async false
set_option maxRecDepth 100000
set_option maxHeartbeats 4000000
namespace K02
open PySem PySem.Spec PyProof.Rows L2
def hdsD : PyData → List PyData
  | .tuple [.tuple hs, _] => hs
  | _ => []
theorem let_is {d : PyData} (h : letterD d = true) : ∃ hs b, d = .tuple [.tuple hs, b] ∧ hs.length ≤ 4 ∧ ∀ x ∈ hs, nameD x = true := by
  unfold letterD at h
  split at h
  · rename_i hs b
    rw [Bool.and_eq_true, Bool.and_eq_true, decide_eq_true_eq] at h
    exact ⟨hs, b, rfl, h.1, List.all_eq_true.mp h.2.1⟩
  · cases h
section
variable {P : Program} {w : World} {K : PySem.W.Frag} {mg : Str → Option Value} {base : Heap} {A : Ad}
def spHdTold (K : PySem.W.Frag) (A : Ad) : Sp := fun vs H Q _ => ∃ m L, vs = [.ref m] ∧ MailAt K A H m L ∧ L.flatten.length ≤ 18 ∧ ∀ l xs H', Ext H H' → H l = none → H' l = some (.lst xs) → DpAll K H' xs (L.flatten.flatMap hdsD) → Q (.ref l) H'
theorem ok_hdTold {f : Addr} {fd : FuncData} (F : Fun K "heads_told" "Mail.heads_told" s_Mail_heads_told f fd) (T : Txt K mg A) : FnOk P w K mg base CX0 1 f fd pm_Mail_heads_told (spHdTold K A) := by
  refine F.ok sc_Mail_heads_told (fun vs H Q E h => ?_) (fun cdv A' outer sh H vs Q E hr h => ?_)
  · obtain ⟨_, _, rfl, _⟩ := h
    rfl
  · obtain ⟨m, L, rfl, ⟨dx, pr, pl, hm, hpr, hpl, hlet⟩, hl18, q⟩ := h
    refine ⟨_, pss_one (ps_ret (pe_lc2 (own := [("letter", 1), ("head", 2)]) (vs1 := [2]) (g := gName 1) (g1 := gName 2) (by rfl) sc_Mail_heads_told.nd (pi_tup (pe_fld (pv 0) rfl)) (blkOk_by (own := [("letter", 1), ("head", 2)]) (N := nm_Mail_heads_told) (sc := defScope s_Mail_heads_told) (by decide +kernel)) (by decide) (fun s1 H1 C1 cl fp => pg_name (i := 1) sc_Mail_heads_told.nd rfl (Or.inl rfl)) (fun s1 H1 C1 cl fp => pts_nil) (fun s1 H1 C1 cl fp => pi_sqK (K := K) rfl (pe_ix (ix_tupK (K := K) rfl) (pv 1) (pe_int) (fun _ _ => rfl))) (fun s1 H1 C1 cl fp => pg_name (i := 2) sc_Mail_heads_told.nd rfl (Or.inl rfl)) (fun s1 H1 C1 cl fp => pts_nil) (fun s1 H1 C1 cl fp => pv 2))), ?_⟩
    obtain ⟨ls, hx, ha⟩ := tup_dp hpl
    have hll := dps_len ha
    have hlets : ∀ d ∈ L.flatten, letterD d = true := fun d hd => by
      obtain ⟨r, hr, hd⟩ := List.mem_flatten.mp hd
      exact hlet r hr d hd
    generalize L.flatten = D at ha hll hlets hl18 q
    refine ⟨_, rfl, m, A.Mail, dx, _, _, rfl, hm, T.Mail.cl, T.m_letters, rfl, pl, rfl, ⟨_, hx⟩, fun C hC => ?_⟩
    refine steps_tup (xs := ls) (fun i J => ∃ zs, Ext H J ∧ J C = some (.lst zs) ∧ zs.length ≤ 4 * i ∧ DpAll K J zs ((D.take i).flatMap hdsD)) ⟨[], Ext.upd hC, upd_same, Nat.zero_le _, .nil⟩ (fun i J _ pv => by obtain ⟨_, e, _⟩ := pv; exact hx.ext e) (fun i x J hi pv => ?_) (fun J pv => ?_)
    · obtain ⟨us, eJ, hCJ, hul, hus⟩ := pv
      obtain ⟨d0, hdi, hdv⟩ := dps_get ha hi
      obtain ⟨hs, b, rfl, h4, hnm⟩ := let_is (hlets d0 (List.mem_of_getElem? hdi))
      obtain ⟨a0, zs0, rfl, hz0, hza0⟩ := tup_at hdv
      cases hza0 with
      | cons b1 b2 =>
      obtain ⟨a1, zs, rfl, hz, hza⟩ := tup_at b1
      have hzl := dps_len hza
      have hi18 := (List.getElem?_eq_some_iff.mp hi).1
      have hnames : ∀ x ∈ (D.take i).flatMap hdsD, nameD x = true := fun x hx => by
        obtain ⟨d, hd, hx⟩ := List.mem_flatMap.mp hx
        obtain ⟨hs', b', rfl, _, hn'⟩ := let_is (hlets d (List.mem_of_mem_take hd))
        exact hn' x hx
      refine ⟨rfl, _, rfl, a0, _, (0 : Int), .ref a1, rfl, rfl, hz0.ext eJ, atI_nat (j := 0) rfl, a1, rfl, .inr ⟨⟨zs, hz.ext eJ⟩, ?_⟩⟩
      refine steps_tup (xs := zs) (fun j J2 => ∃ us, Ext H J2 ∧ J2 C = some (.lst us) ∧ us.length ≤ 4 * i + j ∧ DpAll K J2 us ((D.take i).flatMap hdsD ++ hs.take j)) ⟨us, eJ, hCJ, hul, by rw [List.take_zero, List.append_nil]; exact hus⟩ (fun j J2 _ pv => by obtain ⟨_, e, _⟩ := pv; exact hz.ext e) (fun j u J2 hj pv => ?_) (fun J2 pv => ?_)
      · obtain ⟨us2, eJ2, hC2, hul2, hus2⟩ := pv
        obtain ⟨du, hdu, hdd⟩ := dps_get (dps_ext eJ2 _ _ hza) hj
        have hjl := (List.getElem?_eq_some_iff.mp hj).1
        refine ⟨rfl, u, rfl, us2, hC2, small_sz (by omega), us2 ++ [u], ext_mut eJ2 hC, upd_same, by rw [List.length_append]; show us2.length + 1 ≤ _; omega, ?_⟩
        refine strs_keep (H := J2) (fun z hz => ?_) ?_
        · rcases List.mem_append.mp hz with hz | hz
          · exact hnames z hz
          · exact hnm z (List.mem_of_mem_take hz)
        · rw [L2.take_snoc hdu, ← List.append_assoc]
          exact dps_snoc hdd hus2
      · obtain ⟨us2, eJ2, hC2, hul2, hus2⟩ := pv
        refine ⟨us2, eJ2, hC2, by omega, ?_⟩
        rw [List.take_of_length_le (l := hs) (by omega)] at hus2
        rw [L2.take_snoc hdi, List.flatMap_append]
        show DpAll K J2 us2 ((D.take i).flatMap hdsD ++ (hs ++ []))
        rw [List.append_nil]
        exact hus2
    · obtain ⟨us, eJ, hCJ, hul, hus⟩ := pv
      rw [List.take_of_length_le (by omega)] at hus
      exact q C us J eJ hC hCJ hus
end
end K02

set_option Elab.async false
namespace K02
/-! a book's distances: the heads by their last use; plain mathematics -/
section
variable {α : Type} [DecidableEq α]
/-- the heads used, the last one first; xs: the uses, the last one first -/
def rec' : List α → List α
  | [] => []
  | x :: xs => x :: (rec' xs).filter (fun y => decide (y ≠ x))
theorem rec_mem : ∀ {xs : List α} {x : α}, x ∈ rec' xs ↔ x ∈ xs
  | [], _ => Iff.rfl
  | y :: ys, x => by
    unfold rec'
    rw [List.mem_cons, List.mem_cons, List.mem_filter, decide_eq_true_eq, rec_mem]
    constructor
    · rintro (h | h)
      · exact .inl h
      · exact .inr h.1
    · rintro (h | h)
      · exact .inl h
      · by_cases e : x = y
        · exact .inl e
        · exact .inr ⟨h, e⟩
theorem rec_nd : ∀ xs : List α, (rec' xs).Nodup
  | [] => List.nodup_nil
  | x :: xs => by
    unfold rec'
    rw [List.nodup_cons]
    refine ⟨fun h => ?_, (rec_nd xs).filter _⟩
    rw [List.mem_filter, decide_eq_true_eq] at h
    exact h.2 rfl
/-- how many unlike uses since the last one of h; S: those met -/
def dR (h : α) : List α → List α → Option Nat
  | [], _ => none
  | x :: xs, S => if x = h then some S.length else dR h xs (if x ∈ S then S else S ++ [x])
theorem dR_rec (h : α) : ∀ (xs S : List α), h ∉ S → dR h xs S = if h ∈ xs then some (S.length + at1 ((rec' xs).filter fun y => decide (y ∉ S)) h) else none
  | [], S, _ => by
    rw [if_neg (fun z => nomatch z)]; rfl
  | x :: xs, S, hS => by
    show (if x = h then some S.length else dR h xs (if x ∈ S then S else S ++ [x])) = _
    unfold rec'
    by_cases e : x = h
    · subst e
      rw [if_pos rfl, if_pos List.mem_cons_self, List.filter_cons, if_pos (by rw [decide_eq_true_eq]; exact hS)]
      unfold at1
      rw [if_pos rfl]; rfl
    · rw [if_neg e]
      have hm : (h ∈ x :: xs) ↔ h ∈ xs := by
        rw [List.mem_cons]
        exact ⟨fun z => z.resolve_left fun y => e y.symm, .inr⟩
      by_cases hx : x ∈ S
      · rw [if_pos hx, dR_rec h xs S hS]
        have hf : (x :: (rec' xs).filter (fun y => decide (y ≠ x))).filter (fun y => decide (y ∉ S)) = (rec' xs).filter (fun y => decide (y ∉ S)) := by
          rw [List.filter_cons, if_neg (by rw [decide_eq_true_eq]; exact fun z => z hx), List.filter_filter]
          refine List.filter_congr fun y _ => ?_
          by_cases hy : y ∈ S
          · rw [decide_eq_false (fun z => z hy)]; rfl
          · rw [decide_eq_true hy, Bool.true_and]
            exact decide_eq_true fun z => hy (z ▸ hx)
        rw [hf]
        by_cases hh : h ∈ xs
        · rw [if_pos hh, if_pos (hm.mpr hh)]
        · rw [if_neg hh, if_neg fun z => hh (hm.mp z)]
      · rw [if_neg hx, dR_rec h xs (S ++ [x]) (by
          rw [List.mem_append, List.mem_singleton]
          rintro (z | z)
          · exact hS z
          · exact e z.symm)]
        by_cases hh : h ∈ xs
        · rw [if_pos hh, if_pos (hm.mpr hh), List.length_append, List.filter_cons, if_pos (by rw [decide_eq_true_eq]; exact hx)]
          have hf : (rec' xs).filter (fun y => decide (y ∉ S ++ [x])) = ((rec' xs).filter (fun y => decide (y ≠ x))).filter (fun y => decide (y ∉ S)) := by
            rw [List.filter_filter]
            refine List.filter_congr fun y _ => ?_
            rw [Bool.eq_iff_iff, Bool.and_eq_true, decide_eq_true_eq, decide_eq_true_eq, decide_eq_true_eq, List.mem_append, List.mem_singleton]
            exact ⟨fun z => ⟨fun a => z (.inl a), fun a => z (.inr a)⟩, fun z a => a.elim z.1 z.2⟩
          rw [hf]
          show some (S.length + 1 + _) = some (S.length + at1 (x :: _) h)
          conv => rhs; unfold at1
          rw [if_neg e]
          congr 1
          omega
        · rw [if_neg hh, if_neg fun z => hh (hm.mp z)]
/-- the distance of h behind the uses us -/
def dist (us : List α) (h : α) : Option Nat := dR h us.reverse []
theorem dist_rec (us : List α) (h : α) : dist us h = if h ∈ us then some (at1 (rec' us.reverse) h) else none := by
  unfold dist
  rw [dR_rec h _ [] (fun z => nomatch z)]
  have hf : (rec' us.reverse).filter (fun y => decide (y ∉ ([] : List α))) = rec' us.reverse := List.filter_eq_self.mpr fun y _ => decide_eq_true fun z => nomatch z
  rw [hf]
  by_cases hh : h ∈ us
  · rw [if_pos hh, if_pos (List.mem_reverse.mpr hh)]
    show some (0 + _) = _
    rw [Nat.zero_add]
  · rw [if_neg hh, if_neg fun z => hh (List.mem_reverse.mp z)]
/-! what a book of n places holds: the n heads used last -/
/-- the heads held, the last used one first -/
def held (s : St α) : List (Option α) := (s.2.map fun p => (s.1[p]?).join).reverse
theorem filter_lt {l : List α} (hd : l.Nodup) {x : α} (hx : x ∈ l) : (l.filter fun y => decide (y ≠ x)).length + 1 = l.length := by
  induction l with
  | nil => cases hx
  | cons y l ih =>
    rw [List.nodup_cons] at hd
    rw [List.filter_cons]
    by_cases e : y = x
    · subst e
      rw [if_neg (by rw [decide_eq_true_eq]; exact fun z => z rfl)]
      have : l.filter (fun z => decide (z ≠ y)) = l := List.filter_eq_self.mpr fun z hz => decide_eq_true fun e => hd.1 (e ▸ hz)
      rw [this]; rfl
    · rw [if_pos (by rw [decide_eq_true_eq]; exact e)]
      have := ih hd.2 ((List.mem_cons.mp hx).resolve_left fun z => e z.symm)
      rw [List.length_cons, List.length_cons]
      omega
theorem take_filter {l : List α} (hd : l.Nodup) {x : α} {k : Nat} (hx : x ∈ l.take (k + 1)) : (l.filter fun y => decide (y ≠ x)).take k = (l.take (k + 1)).filter fun y => decide (y ≠ x) := by
  induction l generalizing k with
  | nil => cases hx
  | cons y l ih =>
    rw [List.nodup_cons] at hd
    rw [List.take_succ_cons] at hx ⊢
    rw [List.filter_cons, List.filter_cons]
    by_cases e : y = x
    · subst e
      rw [if_neg (by rw [decide_eq_true_eq]; exact fun z => z rfl), if_neg (by rw [decide_eq_true_eq]; exact fun z => z rfl)]
      have h1 : l.filter (fun z => decide (z ≠ y)) = l := List.filter_eq_self.mpr fun z hz => decide_eq_true fun e => hd.1 (e ▸ hz)
      have h2 : (l.take k).filter (fun z => decide (z ≠ y)) = l.take k := List.filter_eq_self.mpr fun z hz => decide_eq_true fun e => hd.1 (e ▸ List.mem_of_mem_take hz)
      rw [h1, h2]
    · rw [if_pos (by rw [decide_eq_true_eq]; exact e), if_pos (by rw [decide_eq_true_eq]; exact e)]
      have hx' := (List.mem_cons.mp hx).resolve_left fun z => e z.symm
      cases k with
      | zero => cases hx'
      | succ k =>
        rw [List.take_succ_cons, ih hd.2 hx']
theorem take_filter' {l : List α} {x : α} {k : Nat} (hx : x ∉ l.take (k + 1)) : (l.filter fun y => decide (y ≠ x)).take k = l.take k := by
  induction l generalizing k with
  | nil => rfl
  | cons y l ih =>
    rw [List.take_succ_cons] at hx
    rw [List.filter_cons, if_pos (by rw [decide_eq_true_eq]; exact fun z => hx (z ▸ List.mem_cons_self))]
    cases k with
    | zero => rfl
    | succ k =>
      rw [List.take_succ_cons, List.take_succ_cons, ih fun z => hx (List.mem_cons_of_mem _ z)]
structure Lru (n : Nat) (us : List α) (s : St α) : Prop where
  ok : ∃ ns, Ok n s ns
  held : held s = ((rec' us.reverse).take n).map some
theorem join_get {s : St α} {n : Nat} {ns : List α} (o : Ok n s ns) {p : Nat} (h : p < ns.length) : (s.1[p]?).join = some ns[p] := by rw [o.get h]; rfl
theorem lru_mem {n : Nat} {us : List α} {s : St α} (h : Lru n us s) (x : α) : some x ∈ s.1 ↔ x ∈ (rec' us.reverse).take n := by
  obtain ⟨ns, o⟩ := h.ok
  have hh := h.held
  rw [o.mem]
  have e : some x ∈ held s ↔ x ∈ (rec' us.reverse).take n := by
    rw [hh, List.mem_map]
    constructor
    · rintro ⟨y, hy, e⟩
      cases e
      exact hy
    · exact fun z => ⟨x, z, rfl⟩
  rw [← e]
  unfold K02.held
  rw [List.mem_reverse, List.mem_map]
  constructor
  · intro hx
    obtain ⟨i, hi, he⟩ := List.getElem_of_mem hx
    exact ⟨i, o.omem.mpr hi, by rw [join_get o hi, he]⟩
  · rintro ⟨p, hp, e⟩
    have hp' := o.omem.mp hp
    rw [join_get o hp'] at e
    cases e
    exact List.getElem_mem hp'
theorem lru_len {n : Nat} {us : List α} {s : St α} (h : Lru n us s) {ns : List α} (o : Ok n s ns) : ((rec' us.reverse).take n).length = ns.length := by
  have := congrArg List.length h.held
  unfold K02.held at this
  rw [List.length_reverse, List.length_map, List.length_map, o.olen] at this
  exact this.symm
/-- the heads held but p's -/
theorem held_filter {s : St α} {n : Nat} {ns : List α} (o : Ok n s ns) {p : Nat} (hp : p < ns.length) : (s.2.filter fun x => decide (x ≠ p)).map (fun q => (s.1[q]?).join) = (s.2.map fun q => (s.1[q]?).join).filter fun y => decide (y ≠ some ns[p]) := by
  rw [List.filter_map]
  congr 1
  refine List.filter_congr fun q hq => ?_
  have hq' := o.omem.mp hq
  show decide (q ≠ p) = decide ((s.1[q]?).join ≠ some ns[p])
  rw [join_get o hq', Bool.eq_iff_iff, decide_eq_true_eq, decide_eq_true_eq]
  exact ⟨fun a b => a ((List.getElem_inj o.nd).mp (Option.some.inj b)), fun a b => a (by subst b; rfl)⟩
theorem map_filter_some {l : List α} {x : α} : (l.map some).filter (fun y => decide (y ≠ some x)) = (l.filter fun y => decide (y ≠ x)).map some := by
  rw [List.filter_map]
  congr 1
  refine List.filter_congr fun y _ => ?_
  show decide (some y ≠ some x) = decide (y ≠ x)
  rw [Bool.eq_iff_iff, decide_eq_true_eq, decide_eq_true_eq]
  exact ⟨fun a b => a (by rw [b]), fun a b => a (Option.some.inj b)⟩
theorem lru_step {n : Nat} {us : List α} {s : St α} (L : Lru n us s) (h : α) : Lru n (us ++ [h]) (step s h) := by
  obtain ⟨ns, o⟩ := L.ok
  obtain ⟨ns', o', _⟩ := ok_step o h
  refine ⟨⟨ns', o'⟩, ?_⟩
  have hlen := lru_len L o
  have hmem := lru_mem L
  rw [List.reverse_append]
  show K02.held (step s h) = ((rec' (h :: us.reverse)).take n).map some
  have hH := L.held
  unfold K02.held at hH
  generalize hR : us.reverse = R at hlen hmem hH ⊢
  have hnd := rec_nd R
  show _ = ((h :: (rec' R).filter fun y => decide (y ≠ h)).take n).map some
  unfold step place
  by_cases hm : some h ∈ s.1
  · rw [if_pos hm]
    have hn := o.mem.mp hm
    obtain ⟨i, hi, he⟩ := List.getElem_of_mem hn
    have ha : at1 s.1 (some h) = i := by rw [← he]; exact o.ats hi
    dsimp only
    rw [ha]
    unfold put K02.held
    have hset : s.1.set i (some h) = s.1 := by
      refine List.ext_getElem? fun j => ?_
      by_cases hj : j = i
      · subst hj
        rw [List.getElem?_set_self (by rw [o.len]; have := o.le; omega), o.get hi, he]
      · rw [List.getElem?_set_ne (fun z => hj z.symm)]
    dsimp only
    rw [hset, List.map_append, List.reverse_append, held_filter o hi, he, ← List.filter_reverse, hH, map_filter_some]
    have hjn : [i].map (fun q => (s.1[q]?).join) = [some h] := by
      show [(s.1[i]?).join] = _
      rw [join_get o hi, he]
    rw [hjn]
    have h2 := (hmem h).mp hm
    cases n with
    | zero => cases h2
    | succ k =>
      rw [List.take_succ_cons, List.map_cons, take_filter hnd h2]; rfl
  · rw [if_neg hm]
    have hnot : h ∉ (rec' R).take n := fun z => hm ((hmem h).mpr z)
    unfold nextP
    rw [o.olen, o.len]
    by_cases hl : ns.length < n
    · rw [if_pos hl, o.atn hl]
      dsimp only
      unfold put K02.held
      dsimp only
      have hR' : (rec' R).take n = rec' R := List.take_of_length_le (by
        rw [List.length_take] at hlen
        omega)
      rw [hR'] at hnot hH hlen
      have hf : (rec' R).filter (fun y => decide (y ≠ h)) = rec' R := List.filter_eq_self.mpr fun y hy => decide_eq_true fun e => hnot (e ▸ hy)
      have hf2 : s.2.filter (fun x => decide (x ≠ ns.length)) = s.2 := List.filter_eq_self.mpr fun x hx => decide_eq_true (by have := o.omem.mp hx; omega)
      rw [hf, hf2, List.take_of_length_le (by rw [List.length_cons]; omega), List.map_append, List.reverse_append]
      have h1 : s.2.map (fun p => ((s.1.set ns.length (some h))[p]?).join) = s.2.map (fun p => (s.1[p]?).join) := List.map_congr_left fun p hp => by
        have := o.omem.mp hp
        rw [List.getElem?_set_ne (by omega)]
      have h2 : [ns.length].map (fun p => ((s.1.set ns.length (some h))[p]?).join) = [some h] := by
        show [((s.1.set ns.length (some h))[ns.length]?).join] = _
        rw [List.getElem?_set_self (by rw [o.len]; exact hl)]; rfl
      rw [h1, h2, hH]; rfl
    · rw [if_neg hl]
      have hn : ns.length = n := Nat.le_antisymm o.le (Nat.le_of_not_lt hl)
      cases h2 : s.2 with
      | nil =>
        have h0 : ns.length = 0 := by rw [← o.olen, h2]; rfl
        have n0 : n = 0 := by omega
        subst n0
        unfold K02.held
        show (s.2.map _).reverse = _
        rw [h2]; rfl
      | cons p O =>
        show K02.held (put s h p) = _
        unfold put K02.held
        dsimp only
        have hp : p < ns.length := o.omem.mp (by rw [h2]; exact List.mem_cons_self)
        have hpO : p ∉ O := by
          have := o.ond
          rw [h2, List.nodup_cons] at this
          exact this.1
        have hf : s.2.filter (fun x => decide (x ≠ p)) = O := by
          rw [h2, List.filter_cons, if_neg (by rw [decide_eq_true_eq]; exact fun z => z rfl)]
          exact List.filter_eq_self.mpr fun x hx => decide_eq_true fun e => hpO (e ▸ hx)
        rw [hf, List.map_append, List.reverse_append]
        have h1 : O.map (fun q => ((s.1.set p (some h))[q]?).join) = O.map (fun q => (s.1[q]?).join) := List.map_congr_left fun q hq => by
          rw [List.getElem?_set_ne (show p ≠ q from fun e => hpO (by rw [e]; exact hq))]
        have h3 : [p].map (fun q => ((s.1.set p (some h))[q]?).join) = [some h] := by
          show [((s.1.set p (some h))[p]?).join] = _
          rw [List.getElem?_set_self (by rw [o.len]; omega)]; rfl
        rw [h1, h3]
        rw [h2, List.map_cons, List.reverse_cons] at hH
        cases n with
        | zero => omega
        | succ k =>
          rw [List.take_succ_cons, take_filter' hnot, List.map_cons]
          have hk : ((rec' R).take (k + 1)).map some = ((rec' R).take k).map some ++ [((s.1[p]?).join)] := by
            have hl2 : k < (rec' R).length := by
              rw [List.length_take] at hlen
              omega
            have h4 : (rec' R).take (k + 1) = (rec' R).take k ++ [(rec' R)[k]] := by
              rw [List.take_succ, List.getElem?_eq_getElem hl2]; rfl
            rw [h4, List.map_append] at hH ⊢
            rw [List.append_inj_right' hH rfl]
          rw [hk] at hH
          have := List.append_inj_left' hH rfl
          rw [this]; rfl
theorem lru_run {n : Nat} (us : List α) : Lru n us (run n us) := by
  have go : ∀ (vs us : List α) (s : St α), Lru n us s → Lru n (us ++ vs) (vs.foldl step s) := fun vs => by
    induction vs with
    | nil => intro us s L; rw [List.append_nil]; exact L
    | cons v vs ih =>
      intro us s L
      have := ih (us ++ [v]) (step s v) (lru_step L v)
      rw [List.append_assoc] at this
      exact this
  have := go us [] (emp n) ⟨⟨[], ok_emp⟩, by unfold K02.held emp; simp [rec']⟩
  rwa [List.nil_append] at this
theorem at1_take {l : List α} {x : α} {n : Nat} (h : x ∈ l) : x ∈ l.take n ↔ at1 l x < n := by
  induction l generalizing n with
  | nil => cases h
  | cons y l ih =>
    unfold at1
    cases n with
    | zero => simp
    | succ n =>
      rw [List.take_succ_cons, List.mem_cons]
      by_cases e : y = x
      · rw [if_pos e]
        exact ⟨fun _ => Nat.succ_pos _, fun _ => .inl e.symm⟩
      · rw [if_neg e, Nat.add_lt_add_iff_right, ← ih ((List.mem_cons.mp h).resolve_left fun z => e z.symm)]
        exact ⟨fun z => z.resolve_left fun y => e y.symm, .inr⟩
/-- a head is short just if its distance is below the places -/
theorem short_dist (n : Nat) (us : List α) (h : α) : decide (some h ∈ (run n us).1) = (match dist us h with | none => false | some d => decide (d < n)) := by
  rw [dist_rec]
  have hm := lru_mem (lru_run (n := n) us) h
  by_cases hh : h ∈ us
  · rw [if_pos hh]
    have hr : h ∈ rec' us.reverse := rec_mem.mpr (List.mem_reverse.mpr hh)
    show _ = decide (at1 (rec' us.reverse) h < n)
    rw [Bool.eq_iff_iff, decide_eq_true_eq, decide_eq_true_eq, hm, at1_take hr]
  · rw [if_neg hh]
    refine decide_eq_false fun z => hh ?_
    exact List.mem_reverse.mp (rec_mem.mp (List.mem_of_mem_take (hm.mp z)))
/-! the law's own way to a distance: the unlike heads behind the last earlier use -/
def ins (S : List α) (x : α) : List α := if x ∈ S then S else S ++ [x]
def card (l : List α) : Nat := (l.foldl ins []).length
theorem fold_mem : ∀ (l S : List α) (x : α), x ∈ l.foldl ins S ↔ x ∈ S ∨ x ∈ l
  | [], S, x => ⟨.inl, fun z => z.elim id fun z => nomatch z⟩
  | y :: l, S, x => by
    show x ∈ l.foldl ins (ins S y) ↔ _
    rw [fold_mem l (ins S y) x, List.mem_cons]
    unfold ins
    by_cases hy : y ∈ S
    · rw [if_pos hy]
      exact ⟨fun z => z.elim .inl fun z => .inr (.inr z), fun z => z.elim .inl fun z => z.elim (fun e => .inl (e ▸ hy)) .inr⟩
    · rw [if_neg hy, List.mem_append, List.mem_singleton]
      exact ⟨fun z => z.elim (fun z => z.elim .inl fun e => .inr (.inl e)) fun z => .inr (.inr z), fun z => z.elim (fun z => .inl (.inl z)) fun z => z.elim (fun e => .inl (.inr e)) .inr⟩
theorem fold_nd : ∀ (l S : List α), S.Nodup → (l.foldl ins S).Nodup
  | [], _, h => h
  | y :: l, S, h => by
    refine fold_nd l (ins S y) ?_
    unfold ins
    by_cases hy : y ∈ S
    · rw [if_pos hy]; exact h
    · rw [if_neg hy, List.nodup_append]
      refine ⟨h, by simp, fun a ha b hb => ?_⟩
      rw [List.mem_singleton.mp hb]
      exact fun e => hy (e ▸ ha)
theorem nd_len : ∀ {l m : List α}, l.Nodup → (∀ x, x ∈ l → x ∈ m) → l.length ≤ m.length
  | [], _, _, _ => Nat.zero_le _
  | x :: l, m, h, hm => by
    rw [List.nodup_cons] at h
    have hx := hm x List.mem_cons_self
    have := nd_len (l := l) (m := m.erase x) h.2 fun y hy => (List.mem_erase_of_ne (show y ≠ x from fun e => h.1 (by rw [← e]; exact hy))).mpr (hm y (List.mem_cons_of_mem _ hy))
    rw [List.length_erase_of_mem hx] at this
    have hp : 0 < m.length := List.length_pos_of_mem hx
    rw [List.length_cons]
    omega
theorem card_eq {l m : List α} (h : ∀ x, x ∈ l ↔ x ∈ m) : card l = card m := by
  have h1 : ∀ x, x ∈ l.foldl ins [] ↔ x ∈ m.foldl ins [] := fun x => by rw [fold_mem, fold_mem, h x]
  exact Nat.le_antisymm (nd_len (fold_nd l [] List.nodup_nil) fun x hx => (h1 x).mp hx) (nd_len (fold_nd m [] List.nodup_nil) fun x hx => (h1 x).mpr hx)
theorem dR_split (h : α) : ∀ (B C S : List α), h ∉ B → dR h (B ++ h :: C) S = some (B.foldl ins S).length
  | [], C, S, _ => by
    show (if h = h then some S.length else _) = _
    rw [if_pos rfl]; rfl
  | x :: B, C, S, hB => by
    show (if x = h then some S.length else dR h (B ++ h :: C) (ins S x)) = some (B.foldl ins (ins S x)).length
    rw [if_neg (show ¬ x = h from fun e => hB (by rw [e]; exact List.mem_cons_self)), dR_split h B C (ins S x) fun z => hB (List.mem_cons_of_mem _ z)]
theorem dR_no (h : α) : ∀ (B S : List α), h ∉ B → dR h B S = none
  | [], _, _ => rfl
  | x :: B, S, hB => by
    show (if x = h then some S.length else dR h B (ins S x)) = none
    rw [if_neg (show ¬ x = h from fun e => hB (by rw [e]; exact List.mem_cons_self)), dR_no h B _ fun z => hB (List.mem_cons_of_mem _ z)]
/-- with the last use of h at place j -/
theorem dist_at {us : List α} {h : α} {j : Nat} (hj : us[j]? = some h) (hl : ∀ i, j < i → us[i]? ≠ some h) : dist us h = some (card (us.drop (j + 1))) := by
  have hjl := (List.getElem?_eq_some_iff.mp hj).1
  have hno : h ∉ us.drop (j + 1) := fun z => by
    obtain ⟨i, hi⟩ := List.getElem?_of_mem z
    rw [List.getElem?_drop] at hi
    exact hl (j + 1 + i) (by omega) hi
  have hs : us = us.take j ++ h :: us.drop (j + 1) := by
    have := (List.take_append_drop j us).symm
    rw [List.drop_eq_getElem_cons hjl] at this
    rw [(List.getElem?_eq_some_iff.mp hj).2] at this
    exact this
  unfold dist
  have hr : us.reverse = (us.drop (j + 1)).reverse ++ h :: (us.take j).reverse := by
    conv => lhs; rw [hs]
    rw [List.reverse_append, List.reverse_cons, List.append_assoc]; rfl
  rw [hr, dR_split h _ _ _ fun z => hno (List.mem_reverse.mp z)]
  exact congrArg some (card_eq fun x => List.mem_reverse)
theorem dist_no {us : List α} {h : α} (hn : h ∉ us) : dist us h = none := dR_no h _ _ fun z => hn (List.mem_reverse.mp z)
end
end K02

set_option Elab.async false
set_option maxRecDepth 100000
set_option maxHeartbeats 4000000
namespace K02
open PySem PySem.Spec PyProof.Rows L2
theorem cut_to {xs : List V} {k : Nat} : cutV xs none (some (k : Int)) = xs.take k := by
  unfold cutV
  rw [HT.sIx_none, HT.sIx_nat, List.drop_zero, Nat.sub_zero, Nat.min_def]
  split
  · rfl
  · rename_i h
    rw [List.take_length, List.take_of_length_le (by omega)]
def hid (B L : Addr) (H : Hp) : Hp := fun a => if a = B ∨ a = L then none else H a
theorem hid_ext {B L : Addr} {H : Hp} : Ext (hid B L H) H := fun a o h => by
  unfold hid at h
  split at h
  · cases h
  · exact h
theorem hid_up {B L : Addr} {H H' : Hp} (e : Ext H H') : Ext (hid B L H) (hid B L H') := fun a o h => by
  unfold hid at h ⊢
  split at h
  · cases h
  · rename_i hn
    rw [if_neg hn]
    exact e _ _ h
theorem hid_at {B L p : Addr} {H : Hp} {o : HO} (hn : p ≠ B) (hm : p ≠ L) (h : H p = some o) : hid B L H p = some o := (if_neg (fun e => e.elim hn hm)).trans h
/-- heads in a list or a tuple -/
def Hds (K : PySem.W.Frag) (H : Hp) (a : Addr) (us : List Str) : Prop := SqL K H a (us.map V.str) ∨ SqT K H a (us.map V.str)
theorem Hds.ext {K : PySem.W.Frag} {H H' : Hp} {a : Addr} {us : List Str} (h : Hds K H a us) (e : Ext H H') : Hds K H' a us := by
  rcases h with h | h
  · exact .inl (h.ext e)
  · exact .inr (h.ext e)
theorem ix_either {K : PySem.W.Frag} {σ : L2.St} {J : Hp} {a : Addr} {us : List Str} {i : Nat} {u : Str} {Q : VK} {te ti : TE} (hte : ∀ Q : VK, Q (.ref a) J → te σ J Q) (hti : ∀ Q : VK, Q (.int (i : Int)) J → ti σ J Q) (hx : Hds K J a us) (hat : us[i]? = some u) (q : Q (.str u) J) : tOp (rIxL K) te ti σ J Q ∨ tOp (rIxT K) te ti σ J Q := by
  have hg : (us.map V.str)[i]? = some (.str u) := by rw [List.getElem?_map, hat]; rfl
  rcases hx with hx | hx
  · exact .inl (hte _ (hti _ ⟨a, _, (i : Int), .str u, rfl, rfl, hx, atI_nat hg, q⟩))
  · exact .inr (hte _ (hti _ ⟨a, _, (i : Int), .str u, rfl, rfl, hx, atI_nat hg, q⟩))
theorem rev_either {K : PySem.W.Frag} {σ : L2.St} {J : Hp} {a : Addr} {us : List Str} {i : Nat} {Q : VK} {te ti : TE} (hte : ∀ Q : VK, Q (.ref a) J → te σ J Q) (hti : ∀ Q : VK, Q (.int (i : Int)) J → ti σ J Q) (hx : Hds K J a us) (hi : i < us.length)
    (q : ∀ p J', Ext J J' → J p = none → Hds K J' p (us.take i).reverse → Q (.ref p) J') : tRevL K (tSl (rSlL K) te tNoPart (tPart ti)) σ J Q ∨ tRevT K (tSl (rSlT K) te tNoPart (tPart ti)) σ J Q := by
  have hm : (cutV (us.map V.str) none (some (i : Int))).reverse = (us.take i).reverse.map V.str := by rw [cut_to, ← List.map_take, List.map_reverse]
  rcases hx with hx | hx
  · refine .inl (hte _ (hti _ ⟨(i : Int), rfl, a, _, rfl, hx, fun p hp => ⟨p, _, rfl, SqL.of upd_same, fun p2 hp2 => ?_⟩⟩))
    rw [hm]
    exact q p2 _ ((Ext.upd hp).trans (Ext.upd hp2)) (ext_none (Ext.upd hp) hp2) (.inl (SqL.of upd_same))
  · refine .inr (hte _ (hti _ ⟨(i : Int), rfl, a, _, rfl, hx, fun z => ?_, fun p hp => ⟨p, _, rfl, SqT.of upd_same, fun p2 hp2 => ?_⟩⟩))
    · have h2 := z.2
      rw [HT.sIx_nat, List.length_map, Nat.min_def] at h2
      split at h2 <;> omega
    · rw [hm]
      exact q p2 _ ((Ext.upd hp).trans (Ext.upd hp2)) (ext_none (Ext.upd hp) hp2) (.inr (SqT.of upd_same))
/-- a set of texts, by its members -/
def chi (S : List Str) : Key → Bool := fun k => match k with | .inl _ => false | .inr s => decide (s ∈ S)
theorem chi_nil : chi [] = fun _ => false := by
  funext k
  cases k with
  | inl i => rfl
  | inr s =>
    show decide (s ∈ ([] : List Str)) = false
    exact decide_eq_false (List.not_mem_nil)
theorem chi_ins (S : List Str) (z : Str) : (fun j => chi S j || decide (j = .inr z)) = chi (ins S z) := by
  funext k
  unfold ins
  cases k with
  | inl i =>
    show (false || decide ((Sum.inl i : Key) = .inr z)) = false
    rw [Bool.false_or]
    exact decide_eq_false fun e => nomatch e
  | inr s =>
    show (decide (s ∈ S) || decide ((Sum.inr s : Key) = .inr z)) = decide (s ∈ _)
    rw [Bool.eq_iff_iff, Bool.or_eq_true, decide_eq_true_eq, decide_eq_true_eq, decide_eq_true_eq]
    by_cases h : z ∈ S
    · rw [if_pos h]
      exact ⟨fun a => a.elim id fun e => by cases e; exact h, .inl⟩
    · rw [if_neg h, List.mem_append, List.mem_singleton]
      exact ⟨fun a => a.elim .inl fun e => .inr (by cases e; rfl), fun a => a.elim .inl fun e => .inr (by rw [e])⟩
theorem len_ins (S : List Str) (z : Str) : (if chi S (.inr z) = true then S.length else S.length + 1) = (ins S z).length := by
  unfold ins
  show (if decide (z ∈ S) = true then _ else _) = _
  by_cases h : z ∈ S
  · rw [if_pos (decide_eq_true h), if_pos h]
  · rw [if_neg (by rw [decide_eq_true_eq]; exact h), if_neg h, List.length_append]; rfl
theorem dR_step {h x : Str} {xs S : List Str} (e : ¬ x = h) : dR h (x :: xs) S = dR h xs (ins S x) := by
  show (if x = h then some S.length else dR h xs (ins S x)) = _
  rw [if_neg e]
section
variable {P : Program} {w : World} {K : PySem.W.Frag} {mg : Str → Option Value} {base : Heap} {A : Ad}
def spDistAt (K : PySem.W.Frag) : Sp := fun vs H Q _ => ∃ (a : Addr) (us : List Str) (i : Nat) (u : Str), vs = [.ref a, .int (i : Int)] ∧ Hds K H a us ∧ us[i]? = some u ∧ us.length ≤ 300 ∧ ∀ H', Ext H H' → Q (oV (dist (us.take i) u)) H'
theorem ok_distAt {f : Addr} {fd : FuncData} (F : Fun K "distance_at" "distance_at" s_distance_at f fd) (T : Txt K mg A) : FnOk P w K mg base CX0 1 f fd pm_distance_at (spDistAt K) := by
  refine F.ok sc_distance_at (fun vs H Q E h => ?_) (fun cdv A' outer sh H vs Q E hr h => ?_)
  · obtain ⟨_, _, _, _, rfl, _⟩ := h
    rfl
  · obtain ⟨a, us, i, u, rfl, hx, hat, h300, q⟩ := h
    refine ⟨_, pss_cons (ps_set (i := 2) sc_distance_at.nd rfl (Or.inl rfl) (pe_callTy0 cr_set0K (by rfl) T.n_set (by decide +kernel)))
      (pss_cons (ps_for PassesOwn.never rfl (pi_sq (pe_either (pe_revL (pe_slice sl_list (pv 0) po_none (po_some (pv 1)))) (pe_revT (pe_slice sl_tup (pv 0) po_none (po_some (pv 1)))))) (pg_name (i := 3) sc_distance_at.nd rfl (Or.inl rfl)) (pss_cons (ps_if (pt_cmpR op_eq (pv 3) (pe_either (pe_ix ix_list (pv 0) (pv 1) (fun _ _ => rfl)) (pe_ix ix_tup (pv 0) (pv 1) (fun _ _ => rfl))) (nomark _)) (pss_one (ps_ret (pe_callB cr_lenSetK (by rfl) T.n_len (by decide +kernel) (pa_cons (pv 2) pa_nil)))) (pss_nil))
      (pss_one (ps_expr (pe_saddK (pv 2) (pa_cons (pv 3) pa_nil))))))
      (pss_one (ps_ret (pe_non)))), ?_⟩
    have hil := (List.getElem?_eq_some_iff.mp hat).1
    refine ⟨rfl, fun b hb => ?_⟩
    have eb := Ext.upd (o := SetK P w b (fun _ => false) 0) hb
    refine rev_either (fun Q q => ⟨_, rfl, q⟩) (fun Q q => ⟨_, rfl, q⟩) (hx.ext eb) hil fun p J e hpn hp => ⟨p, rfl, ?_⟩
    have hbJ : J b = some (SetK P w b (chi []) ([] : List Str).length) := by
      rw [chi_nil]
      exact e _ _ upd_same
    have hpb : p ≠ b := fun z => by rw [z, upd_same] at hpn; cases hpn
    have eJ := eb.trans e
    generalize hz : (us.take i).reverse = zs at hp
    have hzl : zs.length ≤ 300 := by rw [← hz, List.length_reverse, List.length_take]; omega
    have hbn : H b = none := hb
    have hp' : SqL K (hid b b J) p (zs.map V.str) ∨ SqT K (hid b b J) p (zs.map V.str) := by
      rcases hp with h | h
      · rcases h with (h | ⟨o, h⟩) | h
        · exact .inl (.inl (.inl (hid_at hpb hpb h)))
        · exact .inl (.inl (.inr ⟨o, hid_at hpb hpb h⟩))
        · exact .inl (.inr h)
      · rcases h with (h | ⟨o, h⟩) | h
        · exact .inr (.inl (.inl (hid_at hpb hpb h)))
        · exact .inr (.inl (.inr ⟨o, hid_at hpb hpb h⟩))
        · exact .inr (.inr h)
    refine for_sqM (H0 := hid b b J) (xs := zs.map V.str) hp' (fun j σ' H' => ∃ S o3, σ' = [some (.ref a), some (.int (i : Int)), some (.ref b), o3] ∧ H' b = some (SetK P w b (chi S) S.length) ∧ S.length ≤ j ∧ dR u zs [] = dR u (zs.drop j) S ∧ Ext (hid b b J) H' ∧ Ext H H') ⟨[], _, rfl, hbJ, Nat.le_refl _, rfl, hid_ext, eJ⟩ (fun j σ' H' pv => by obtain ⟨_, _, _, _, _, _, e, _⟩ := pv; exact e) (fun j x σ' H' hj pv => ?_) (fun σ' H' pv => ?_)
    · obtain ⟨S, o3, rfl, hbH, hSl, hd, eh, eH⟩ := pv
      rw [List.getElem?_map] at hj
      obtain ⟨z, hzj, rfl⟩ := Option.map_eq_some_iff.mp hj
      have hjl := (List.getElem?_eq_some_iff.mp hzj).1
      rw [List.drop_eq_getElem_cons hjl, (List.getElem?_eq_some_iff.mp hzj).2] at hd
      refine ⟨_, rfl, ix_either (fun Q q => ⟨_, rfl, q⟩) (fun Q q => ⟨_, rfl, q⟩) (hx.ext eH) hat ⟨rfl, _, rfl, ?_⟩⟩
      show if decide (V.str z = V.str u) = true then _ else _
      rw [dvs]
      by_cases hzu : z = u
      · rw [decide_eq_true hzu]
        refine iteT ⟨_, rfl, b, _, _, rfl, hbH, by omega, ?_⟩
        have hd2 : dR u (z :: zs.drop (j + 1)) S = some S.length := by
          show (if z = u then some S.length else _) = _
          rw [if_pos hzu]
        rw [hd2, ← hz] at hd
        have := q H' eH
        unfold dist at this
        rw [hd] at this
        exact this
      · rw [decide_eq_false hzu]
        rw [dR_step hzu] at hd
        refine iteF ⟨_, rfl, ⟨b, _, _, rfl, hbH⟩, _, rfl, b, .inr z, _, _, rfl, rfl, hbH, Nat.lt_of_le_of_lt (show S.length + 1 ≤ 301 by omega) (by decide), ?_⟩
        rw [chi_ins, len_ins]
        refine ⟨ins S z, _, rfl, upd_same, ?_, hd, ?_, ext_mut eH hbn⟩
        · unfold ins
          by_cases h : z ∈ S
          · rw [if_pos h]; omega
          · rw [if_neg h, List.length_append]; show S.length + 1 ≤ _; omega
        · exact ext_mut eh (if_pos (.inl rfl))
    · obtain ⟨S, o3, rfl, hbH, hSl, hd, eh, eH⟩ := pv
      rw [List.drop_of_length_le (by rw [List.length_map]; exact Nat.le_refl _), ← hz] at hd
      have := q H' eH
      unfold dist at this
      rw [hd] at this
      exact this
end
end K02

set_option Elab.async false
set_option maxRecDepth 100000
set_option maxHeartbeats 4000000
namespace K02
open PySem PySem.Spec PyProof.Rows L2
theorem names_ok : ∀ {us : List Str}, (∀ u, u ∈ us → nameS u = true) → badAt (us.map PyData.str) = none := fun h => by
  unfold badAt
  rw [List.findIdx?_eq_none_iff]
  intro x hx
  obtain ⟨u, hu, rfl⟩ := List.mem_map.mp hx
  show (!nameS u) = false
  rw [h u hu]
  rfl
theorem str_dps {K : PySem.W.Frag} {H : Hp} : ∀ {us : List Str}, DpAll K H (us.map V.str) (us.map PyData.str)
  | [] => .nil
  | _ :: _ => .cons (.str _) str_dps
def distI (us : List Str) (i : Nat) : Option Nat := match us[i]? with | some u => dist (us.take i) u | none => none
def isNear : Option Nat → Nat → Bool | none, _ => false | some d, n => decide (d < n)
def shB (n : Nat) (us : List Str) : List Bool := (List.range us.length).map fun i => isNear (distI us i) n
def dsV (us : List Str) : List V := (List.range us.length).map fun i => oV (distI us i)
theorem shB_len (n : Nat) (us : List Str) : (shB n us).length = us.length := by
  unfold shB
  rw [List.length_map, List.length_range]
theorem dsV_at {us : List Str} {i : Nat} (h : i < us.length) : (dsV us)[i]? = some (oV (distI us i)) := by
  unfold dsV
  rw [List.getElem?_map, List.getElem?_range h]; rfl
theorem hds_dp {K : PySem.W.Frag} {H : Hp} {a : Addr} {us : List Str} (h : Hds K H a us) : ∃ d, Dp K H (.ref a) d ∧ itemsD d = some (us.map PyData.str) ∧ isSeqD d = true := by
  rcases h with h | h
  · exact ⟨.list (us.map PyData.str), .lst h str_dps, rfl, rfl⟩
  · exact ⟨.tuple (us.map PyData.str), .tup h str_dps, rfl, rfl⟩
theorem name_sm {u : Str} (h : nameS u = true) : u.length ≤ 1000 := by
  unfold nameS at h
  rw [Bool.and_eq_true, Bool.and_eq_true, decide_eq_true_eq, decide_eq_true_eq] at h
  omega
theorem hds_len {K : PySem.W.Frag} {H : Hp} {a : Addr} {us : List Str} (h : Hds K H a us) : ∃ ys, (SqL K H a ys ∨ SqT K H a ys) ∧ ys.length = us.length := ⟨_, h, List.length_map _⟩
section
variable {P : Program} {w : World} {K : PySem.W.Frag} {mg : Str → Option Value} {base : Heap} {A : Ad}
/-- heads that are wrong -/
def HdsBad (K : PySem.W.Frag) (A : Ad) (E : XK) (H : Hp) (v : V) : Prop := ∃ d, Dp K H v d ∧ (∀ ds, itemsD d = some ds → ∀ x ∈ ds, SmD x) ∧ ((isSeqD d = false ∧ ErrH A E H .non) ∨ ∃ ds i, itemsD d = some ds ∧ badAt ds = some i ∧ ErrH A E H (.int (i : Nat)))
theorem HdsBad.opn {v : V} {H : Hp} {E : XK} (h : HdsBad K A E H v) : ∃ d, Dp K H v d ∧ (∀ ds, itemsD d = some ds → ∀ x ∈ ds, SmD x) ∧ (isSeqD d = false → ErrH A E H .non) ∧ (∀ ds i, itemsD d = some ds → badAt ds = some i → ErrH A E H (.int (i : Nat))) ∧ ∀ ds, itemsD d = some ds → badAt ds = none → False := by
  obtain ⟨d, hd, hsm, h⟩ := h
  refine ⟨d, hd, hsm, fun hs => ?_, fun ds i h1 h2 => ?_, fun ds h1 h2 => ?_⟩
  · rcases h with ⟨_, h⟩ | ⟨ds, i, h1, _⟩
    · exact h
    · cases d <;> first | (cases h1; done) | cases hs
  · rcases h with ⟨h, _⟩ | ⟨ds', i', h1', h2', h⟩
    · cases d <;> first | (cases h1; done) | cases h
    · rw [h1] at h1'
      cases h1'
      rw [h2] at h2'
      cases h2'
      exact h
  · rcases h with ⟨h, _⟩ | ⟨ds', i', h1', h2', _⟩
    · cases d <;> first | (cases h1; done) | cases h
    · rw [h1] at h1'
      cases h1'
      rw [h2] at h2'
      cases h2'
theorem Hds.opn {a : Addr} {us : List Str} {H : Hp} (hx : Hds K H a us) (hn : ∀ u ∈ us, nameS u = true) : ∃ d, Dp K H (.ref a) d ∧ (∀ ds, itemsD d = some ds → ∀ x ∈ ds, SmD x) ∧ (isSeqD d = false → False) ∧ ∀ ds i, itemsD d = some ds → badAt ds = some i → False := by
  obtain ⟨d, hd, hi, hs⟩ := hds_dp hx
  refine ⟨d, hd, fun ds h x hx => ?_, fun h => ?_, fun ds i h1 h2 => ?_⟩
  · rw [hi] at h
    cases h
    obtain ⟨u, hu, rfl⟩ := List.mem_map.mp hx
    exact name_sm (hn u hu)
  · rw [hs] at h
    cases h
  · rw [hi] at h1
    cases h1
    rw [names_ok hn] at h2
    cases h2
def spDists (K : PySem.W.Frag) (A : Ad) : Sp := fun vs H Q E => (∃ (a : Addr) (us : List Str), vs = [.ref a] ∧ Hds K H a us ∧ (∀ u ∈ us, nameS u = true) ∧ us.length ≤ 300 ∧ ∀ D H', Ext H H' → H D = none → H' D = some (.lst (dsV us)) → Q (.ref D) H') ∨ ∃ v, vs = [v] ∧ HdsBad K A E H v
theorem ok_dists {f : Addr} {fd : FuncData} (F : Fun K "distances" "distances" s_distances f fd) (T : Txt K mg A) (O_check_heads : Own P w K mg base (L2.CX P w) "check_heads" 3 pm_check_heads (spHeads K A)) (O_distance_at : Own P w K mg base CX0 "distance_at" 1 pm_distance_at (spDistAt K)) : FnOk P w K mg base (L2.CX P w) 4 f fd pm_distances (spDists K A) := by
  refine F.okX sc_distances (fun vs H Q E h => ?_) (fun cdv A' outer sh H vs Q E hr h => ?_)
  · rcases h with ⟨_, _, rfl, _⟩ | ⟨_, rfl, _⟩ <;> rfl
  · refine ⟨_, pss_cons (ps_expr (pe_ownS O_check_heads (hr.mono (by decide)) (takes_of rfl rfl rfl rfl) (pa_cons (pv 0) pa_nil)))
      (pss_one (ps_ret (pe_lc (own := [("index", 1)]) (g := gName 1) (by rfl) sc_distances.nd (pi_range1 rfl T.n_range (pa_cons (pe_callB call_len_seq (by rfl) T.n_len (by decide +kernel) (pa_cons (pv 0) pa_nil)) pa_nil)) (blkOk_by (own := [("index", 1)]) (N := nm_distances) (sc := defScope s_distances) (by decide +kernel)) (fun _ _ _ _ _ => pg_name (i := 1) sc_distances.nd rfl (Or.inl rfl)) (fun s1 H1 C1 cl fp => pts_nil) (fun s1 H1 C1 cl fp => pe_own O_distance_at (hr.mono (by decide)) pass0 (pa_cons (pv 0) (pa_cons (pv 1) pa_nil)))))), ?_⟩
    rcases h with ⟨a, us, rfl, hx, hn, h300, q⟩ | ⟨v, rfl, hb⟩
    · obtain ⟨dh, hdh, hsm, no1, no2⟩ := hx.opn hn
      refine ⟨_, rfl, _, dh, rfl, hdh, hsm, fun z => (no1 z).elim, fun ds i z1 z2 => (no2 ds i z1 z2).elim, fun _ _ _ H1 e1 => ?_⟩
      obtain ⟨ys, hy, hyl⟩ := hds_len (hx.ext e1)
      refine ⟨_, rfl, a, ys, rfl, hy, _, rfl, by omega, by omega, ?_⟩
      rw [hyl]
      refine lc_rgR (n := us.length) (b := fun _ => true) (f := fun i => oV (distI us i)) (small_sz (by omega)) (fun x => rfl) (fun i hi H' e' Q' q' => q' H' Ext.rfl') (fun i hi _ H' e' Q' q' => ?_) (fun D H2 hD e2 hl => ?_)
      · have hu : us[i]? = some us[i] := List.getElem?_eq_getElem hi
        refine ⟨_, rfl, _, rfl, a, us, i, us[i], by rw [Int.zero_add]; rfl, (hx.ext (e1.trans e')), hu, h300, fun H3 e3 => ?_⟩
        have := q' H3 e3
        unfold distI at this
        rw [hu] at this
        exact this
      · rw [List.filter_eq_self.mpr fun _ _ => rfl] at hl
        exact q D H2 (e1.trans e2) (ext_none e1 hD) hl
    · obtain ⟨dh, hdh, hsm, a1, a2, a3⟩ := hb.opn
      exact ⟨_, rfl, v, dh, rfl, hdh, hsm, a1, a2, fun ds z1 z2 => (a3 ds z1 z2).elim⟩
def spNear : Sp := fun vs H Q _ => ∃ (o : Option Nat) (n : Nat), vs = [oV o, .int (n : Int)] ∧ Q (.bl (isNear o n)) H
theorem ok_near {f : Addr} {fd : FuncData} (F : Fun K "is_near" "is_near" s_is_near f fd) : FnOk P w K mg base CX0 1 f fd pm_is_near spNear := by
  refine F.ok sc_is_near (fun vs H Q E h => ?_) (fun cdv A' outer sh H vs Q E hr h => ?_)
  · obtain ⟨_, _, rfl, _⟩ := h
    rfl
  · obtain ⟨o, n, rfl, q⟩ := h
    refine ⟨_, pss_one (ps_ret (pe_and (pe_cmpR op_notN (pv 0) (pe_non) (nomark _)) (pe_one (pe_cmpR op_lt (pv 0) (pv 1) (nomark _))))), ?_⟩
    cases o with
    | none => exact ⟨_, rfl, rfl, _, rfl, iteF q⟩
    | some d =>
      refine ⟨_, rfl, rfl, _, rfl, iteT ⟨_, rfl, _, rfl, _, _, rfl, rfl, ?_⟩⟩
      show Q (.bl (decide ((d : Int) < (n : Int)))) H
      rw [show decide ((d : Int) < (n : Int)) = isNear (some d) n from by show _ = decide (d < n); rw [Bool.eq_iff_iff, decide_eq_true_eq, decide_eq_true_eq]; omega]
      exact q
def spShorts (K : PySem.W.Frag) (A : Ad) : Sp := fun vs H Q E => (∃ (a : Addr) (us : List Str) (n : Nat), vs = [.ref a, .int (n : Int)] ∧ Hds K H a us ∧ (∀ u ∈ us, nameS u = true) ∧ us.length ≤ 300 ∧ n ≤ 4 ∧ ∀ D H', Ext H H' → H D = none → H' D = some (.lst ((shB n us).map V.bl)) → Q (.ref D) H') ∨
  (∃ v y, vs = [v, y] ∧ HdsBad K A E H v) ∨ ∃ (a : Addr) (us : List Str) (y : V) (d : PyData), vs = [.ref a, y] ∧ Hds K H a us ∧ (∀ u ∈ us, nameS u = true) ∧ Dp K H y d ∧ betD d 0 4 = false ∧ ErrP A E H "places"
theorem ErrP.ext {A : Ad} {E : XK} {H H' : Hp} {s : Str} (h : ErrP A E H s) (e : Ext H H') : ErrP A E H' s := fun J e1 => h J (e.trans e1)
theorem bet_nat {n : Nat} (h : n ≤ 4) : betD (.int (n : Int)) 0 4 = true := by
  rw [bet_int, decide_eq_true (show (0 : Int) ≤ (n : Int) by omega), decide_eq_true (show (n : Int) ≤ 4 by omega)]; rfl
theorem ok_shorts {f : Addr} {fd : FuncData} (F : Fun K "shorts" "shorts" s_shorts f fd) (T : Txt K mg A) (O_check_heads : Own P w K mg base (L2.CX P w) "check_heads" 3 pm_check_heads (spHeads K A)) (O_check_places : Own P w K mg base (L2.CX P w) "check_places" 4 pm_check_places (spPlaces K A)) (O_distances : Own P w K mg base (L2.CX P w) "distances" 4 pm_distances (spDists K A)) (O_is_near : Own P w K mg base CX0 "is_near" 1 pm_is_near spNear) : FnOk P w K mg base (L2.CX P w) 6 f fd pm_shorts (spShorts K A) := by
  refine F.okX sc_shorts (fun vs H Q E h => ?_) (fun cdv A' outer sh H vs Q E hr h => ?_)
  · rcases h with ⟨_, _, _, rfl, _⟩ | ⟨_, _, rfl, _⟩ | ⟨_, _, _, _, rfl, _⟩ <;> rfl
  · refine ⟨_, pss_cons (ps_expr (pe_ownS O_check_heads (hr.mono (by decide)) (takes_of rfl rfl rfl rfl) (pa_cons (pv 0) pa_nil)))
      (pss_cons (ps_expr (pe_ownS O_check_places (hr.mono (by decide)) (takes_of rfl rfl rfl rfl) (pa_cons (pv 1) pa_nil)))
      (pss_one (ps_ret (pe_lc (own := [("distance", 2)]) (g := gName 2) (by rfl) sc_shorts.nd (pi_list (pe_ownS O_distances (hr.mono (by decide)) (takes_of rfl rfl rfl rfl) (pa_cons (pv 0) pa_nil))) (blkOk_by (own := [("distance", 2)]) (N := nm_shorts) (sc := defScope s_shorts) (by decide +kernel)) (fun _ _ _ _ _ => pg_name (i := 2) sc_shorts.nd rfl (Or.inl rfl)) (fun s1 H1 C1 cl fp => pts_nil) (fun s1 H1 C1 cl fp => pe_own O_is_near (hr.mono (by decide)) pass0 (pa_cons (pv 2) (pa_cons (pv 1) pa_nil))))))), ?_⟩
    rcases h with ⟨a, us, n, rfl, hx, hn, h300, hn4, q⟩ | ⟨v, y, rfl, hb⟩ | ⟨a, us, y, d, rfl, hx, hn, hd, hbt, hE⟩
    · obtain ⟨dh, hdh, hsm, no1, no2⟩ := hx.opn hn
      refine ⟨_, rfl, _, dh, rfl, hdh, hsm, fun z => (no1 z).elim, fun ds i z1 z2 => (no2 ds i z1 z2).elim, fun _ _ _ H1 e1 => ?_⟩
      refine ⟨_, rfl, _, .int (n : Int), rfl, .int _, fun z => (by rw [bet_nat hn4] at z; cases z), fun _ => ?_⟩
      refine ⟨_, rfl, .inl ⟨a, us, rfl, hx.ext e1, hn, h300, fun D0 H2 e2 hD0 hl0 => ⟨D0, rfl, ⟨_, SqL.of hl0⟩, fun D hD => ?_⟩⟩⟩
      have hdl : (dsV us).length = us.length := by unfold dsV; rw [List.length_map, List.length_range]
      refine lc_list (xs := dsV us) (fun i J => Ext H2 J ∧ J D = some (.lst (((List.range i).map fun j => V.bl (isNear (distI us j) n))))) ⟨Ext.upd hD, upd_same⟩ (fun i J _ pv => SqL.of (pv.1 _ _ hl0)) (fun i x J hxi pv => ?_) (fun J pv => ?_)
      · have hil := (List.getElem?_eq_some_iff.mp hxi).1
        rw [hdl] at hil
        rw [dsV_at hil] at hxi
        cases hxi
        refine ⟨rfl, _, rfl, _, rfl, distI us i, n, rfl, _, pv.2, small_sz (by rw [List.length_map, List.length_range]; omega), ext_mut pv.1 hD, ?_⟩
        rw [upd_same, List.range_succ, List.map_append]; rfl
      · have h1 := e1.trans e2
        refine q D J (h1.trans pv.1) (ext_none h1 hD) ?_
        have h2 := pv.2
        rw [hdl] at h2
        rw [h2]
        unfold shB
        rw [List.map_map]; rfl
    · obtain ⟨dh, hdh, hsm, a1, a2, a3⟩ := hb.opn
      exact ⟨_, rfl, v, dh, rfl, hdh, hsm, a1, a2, fun ds z1 z2 => (a3 ds z1 z2).elim⟩
    · obtain ⟨dh, hdh, hsm, no1, no2⟩ := hx.opn hn
      refine ⟨_, rfl, _, dh, rfl, hdh, hsm, fun z => (no1 z).elim, fun ds i z1 z2 => (no2 ds i z1 z2).elim, fun _ _ _ H1 e1 => ?_⟩
      exact ⟨_, rfl, y, d, rfl, dp_ext e1 _ _ hd, fun _ => hE.ext e1, fun z => (by rw [hbt] at z; cases z)⟩
end
end K02

set_option Elab.async false
set_option maxRecDepth 100000
set_option maxHeartbeats 4000000
namespace K02
open PySem PySem.Spec PyProof.Rows L2
theorem cut_at {xs : List V} {a b : Nat} (h : a ≤ b) : cutV xs (some (a : Int)) (some (b : Int)) = (xs.drop a).take (b - a) := by
  unfold cutV
  rw [HT.sIx_nat, HT.sIx_nat]
  by_cases ha : a ≤ xs.length
  · rw [Nat.min_eq_left ha]
    by_cases hb : b ≤ xs.length
    · rw [Nat.min_eq_left hb]
    · rw [Nat.min_eq_right (by omega), List.take_of_length_le (by rw [List.length_drop]; exact Nat.le_refl _), List.take_of_length_le (by rw [List.length_drop]; omega)]
  · rw [Nat.min_eq_right (a := a) (by omega), List.drop_eq_nil_of_le (by omega), List.drop_eq_nil_of_le (by omega), List.take_nil, List.take_nil]
theorem dps_str {K : PySem.W.Frag} {H : Hp} : ∀ {us : List Str} {xs : List V}, DpAll K H xs (us.map PyData.str) → xs = us.map V.str
  | [], _, h => by cases h; rfl
  | u :: us, _, h => by
    cases h with
    | cons a b =>
      cases a
      rw [dps_str b]; rfl
/-- a letter's data -/
def ltD (p : List Str × Int) : PyData := .tuple [.tuple (p.1.map PyData.str), .int p.2]
theorem let_ltD : ∀ {ds : List PyData}, (∀ d ∈ ds, letterD d = true) → ∃ ls : List (List Str × Int), ds = ls.map ltD ∧ ∀ p ∈ ls, p.1.length ≤ 4 ∧ (∀ u ∈ p.1, nameS u = true) ∧ 0 ≤ p.2 ∧ p.2 ≤ 60
  | [], _ => ⟨[], rfl, fun _ h => nomatch h⟩
  | d :: ds, h => by
    obtain ⟨ls, rfl, hl⟩ := let_ltD (ds := ds) fun x hx => h x (List.mem_cons_of_mem _ hx)
    have hd := h d List.mem_cons_self
    unfold letterD at hd
    split at hd
    · rename_i hs b
      rw [Bool.and_eq_true, Bool.and_eq_true, decide_eq_true_eq] at hd
      obtain ⟨i, rfl, i0, i6⟩ := bet_yes hd.2.2
      have hn : ∀ {hs : List PyData}, hs.all nameD = true → ∃ us : List Str, hs = us.map PyData.str ∧ ∀ u ∈ us, nameS u = true := fun {hs} => by
        induction hs with
        | nil => exact fun _ => ⟨[], rfl, fun _ h => nomatch h⟩
        | cons x hs ih =>
          intro hx
          rw [List.all_cons, Bool.and_eq_true] at hx
          obtain ⟨us, rfl, hu⟩ := ih hx.2
          cases x <;> first | (cases hx.1; done) | skip
          rename_i s
          exact ⟨s :: us, rfl, fun u h => (List.mem_cons.mp h).elim (fun e => e ▸ hx.1) (hu u)⟩
      obtain ⟨us, rfl, hu⟩ := hn hd.2.1
      rw [List.length_map] at hd
      refine ⟨(us, i) :: ls, rfl, fun p hp => ?_⟩
      rcases List.mem_cons.mp hp with rfl | hp
      · exact ⟨hd.1, hu, i0, i6⟩
      · exact hl p hp
    · cases hd
def hds (ls : List (List Str × Int)) : List Str := ls.flatMap (·.1)
theorem hds_flat (ls : List (List Str × Int)) : (ls.map ltD).flatMap hdsD = (hds ls).map PyData.str := by
  induction ls with
  | nil => rfl
  | cons p ls ih =>
    rw [List.map_cons, List.flatMap_cons, ih]
    unfold hds
    rw [List.flatMap_cons, List.map_append]; rfl
def costB (c : Int) (t : Bool) : Int := if t then 1 else c
/-- the lengths of letters -/
def lens (bs : List Bool) (c : Int) : List (List Str × Int) → Nat → List Int
  | [], _ => []
  | p :: ls, k => ((((bs.drop k).take p.1.length).map (costB c)).sum + p.2) :: lens bs c ls (k + p.1.length)
theorem lens_len (bs : List Bool) (c : Int) : ∀ (ls : List (List Str × Int)) (k : Nat), (lens bs c ls k).length = ls.length
  | [], _ => rfl
  | _ :: ls, k => congrArg (· + 1) (lens_len bs c ls _)
def offs : List (List Str × Int) → Nat → Nat
  | _, 0 => 0
  | [], _ => 0
  | p :: ls, i + 1 => p.1.length + offs ls i
theorem lens_at (bs : List Bool) (c : Int) : ∀ (ls : List (List Str × Int)) (k i : Nat) (p : List Str × Int), ls[i]? = some p → (lens bs c ls k)[i]? = some ((((bs.drop (k + offs ls i)).take p.1.length).map (costB c)).sum + p.2)
  | p :: ls, k, 0, _, h => by cases h; rfl
  | p :: ls, k, i + 1, q, h => by
    have := lens_at bs c ls (k + p.1.length) i q h
    rw [Nat.add_assoc] at this
    exact this
theorem offs_succ : ∀ (ls : List (List Str × Int)) (i : Nat) (p : List Str × Int), ls[i]? = some p → offs ls (i + 1) = offs ls i + p.1.length
  | p :: ls, 0, _, h => by
    cases h
    show p.1.length + offs ls 0 = 0 + _
    have : offs ls 0 = 0 := by cases ls <;> rfl
    omega
  | p :: ls, i + 1, q, h => by
    have := offs_succ ls i q h
    show p.1.length + offs ls (i + 1) = p.1.length + offs ls i + _
    omega
theorem offs_le : ∀ (ls : List (List Str × Int)) (i : Nat), offs ls i ≤ (hds ls).length
  | [], 0 => Nat.zero_le _
  | [], _ + 1 => Nat.zero_le _
  | p :: ls, 0 => Nat.zero_le _
  | p :: ls, i + 1 => by
    have := offs_le ls i
    show p.1.length + offs ls i ≤ (hds (p :: ls)).length
    unfold hds at this ⊢
    rw [List.flatMap_cons, List.length_append]
    omega
theorem offs_zero (ls : List (List Str × Int)) : offs ls 0 = 0 := by cases ls <;> rfl
theorem hds_small : ∀ {ls : List (List Str × Int)}, (∀ p ∈ ls, p.1.length ≤ 4) → (hds ls).length ≤ 4 * ls.length
  | [], _ => Nat.zero_le _
  | p :: ls, h => by
    have h1 := h p List.mem_cons_self
    have h2 := hds_small (ls := ls) fun q hq => h q (List.mem_cons_of_mem _ hq)
    unfold hds at h2 ⊢
    rw [List.flatMap_cons, List.length_append, List.length_cons]
    omega
section
variable {P : Program} {w : World} {K : PySem.W.Frag} {mg : Str → Option Value} {base : Heap} {A : Ad}
/-- a mail of letters ls -/
def MlAt (K : PySem.W.Frag) (A : Ad) (H : Hp) (m : Addr) (ls : List (List Str × Int)) : Prop := ∃ L, MailAt K A H m L ∧ L.flatten = ls.map ltD ∧ ls.length ≤ 18 ∧ ∀ p ∈ ls, p.1.length ≤ 4 ∧ (∀ u ∈ p.1, nameS u = true) ∧ 0 ≤ p.2 ∧ p.2 ≤ 60
theorem MlAt.ext {H H' : Hp} {m : Addr} {ls : List (List Str × Int)} (h : MlAt K A H m ls) (e : Ext H H') : MlAt K A H' m ls := by
  obtain ⟨L, h1, h2⟩ := h
  exact ⟨L, h1.ext e, h2⟩
theorem MlAt.ins {H : Hp} {m : Addr} {ls : List (List Str × Int)} (h : MlAt K A H m ls) : ∃ dx fs, H m = some (.ins A.Mail dx fs) ∧ fs.lookup ("heads_told" : Str) = none ∧ fs.lookup ("letters_told" : Str) = none := by
  obtain ⟨L, ⟨dx, pr, pl, h1, _⟩, _⟩ := h
  exact ⟨dx, _, h1, rfl, rfl⟩
theorem MlAt.small {H : Hp} {m : Addr} {ls : List (List Str × Int)} (h : MlAt K A H m ls) : ls.length ≤ 18 := by
  obtain ⟨_, _, _, h, _⟩ := h
  exact h
def spChkMail (K : PySem.W.Frag) (A : Ad) : Sp := fun vs H Q E => ∃ v, vs = [v] ∧ ((∃ m dx fs, v = .ref m ∧ H m = some (.ins A.Mail dx fs) ∧ Q .non H) ∨ ∃ d, Dp K H v d ∧ ErrP A E H "mail")
theorem ok_chkMail {f : Addr} {fd : FuncData} (F : Fun K "check_mail" "check_mail" s_check_mail f fd) (T : Txt K mg A) (X_BadPart : XCls P w K mg base "BadPart" "part" A.BadPart) : FnOk P w K mg base (L2.CX P w) 3 f fd pm_check_mail (spChkMail K A) := by
  refine F.okX sc_check_mail (fun vs H Q E h => ?_) (fun cdv A' outer sh H vs Q E hr h => ?_)
  · obtain ⟨_, rfl, _⟩ := h
    rfl
  · obtain ⟨v, rfl, h⟩ := h
    refine ⟨_, pss_one (ps_if (pt_not (pt_val (pe_callB call_isi (by rfl) T.n_isinstance (by decide +kernel) (pa_cons (pv 0) (pa_cons (pe_gcls T.Mail.gC) pa_nil))))) (pss_one (ps_raise rfl (takes_of rfl rfl rfl rfl) (pmk_X X_BadPart (hr.mono (by decide)) (pe_str) rfl))) (pss_nil)), ?_⟩
    rcases h with ⟨m, dx, fs, rfl, hm, q⟩ | ⟨d, hd, hE⟩
    · exact ⟨_, rfl, _, .ref A.Mail, .ref A.Mail, .ref A.Mail, true, rfl, .own _, T.Mail.tyOf hm, T.Mail.me, _, rfl, iteF q⟩
    · exact ⟨_, rfl, _, .ref A.Mail, .type (tnD d), .ref A.Mail, false, rfl, .own _, dp_ty hd, T.Mail.kitB (sub_ty_ref kd_find) rfl, _, rfl, iteT (mkX_fin fun e he => hE H Ext.rfl' e he)⟩
def spChkCost (K : PySem.W.Frag) (A : Ad) : Sp := fun vs H Q E => ∃ v d, vs = [v] ∧ Dp K H v d ∧ ((betD d 2 9 = true ∧ Q .non H) ∨ (betD d 2 9 = false ∧ ErrP A E H "cost"))
theorem ok_chkCost {f : Addr} {fd : FuncData} (F : Fun K "check_cost" "check_cost" s_check_cost f fd) (T : Txt K mg A) (O_is_between : Own P w K mg base CX0 "is_between" 2 pm_is_between (spBetween K)) (X_BadPart : XCls P w K mg base "BadPart" "part" A.BadPart) : FnOk P w K mg base (L2.CX P w) 4 f fd pm_check_cost (spChkCost K A) := by
  refine F.okX sc_check_cost (fun vs H Q E h => ?_) (fun cdv A' outer sh H vs Q E hr h => ?_)
  · obtain ⟨_, _, rfl, _⟩ := h
    rfl
  · obtain ⟨v, d, rfl, hd, h⟩ := h
    refine ⟨_, pss_one (ps_if (pt_not (pt_val (pe_own O_is_between (hr.mono (by decide)) pass0 (pa_cons (pv 0) (pa_cons (pe_int) (pa_cons (pe_int) pa_nil)))))) (pss_one (ps_raise rfl (takes_of rfl rfl rfl rfl) (pmk_X X_BadPart (hr.mono (by decide)) (pe_str) rfl))) (pss_nil)), ?_⟩
    refine ⟨_, rfl, v, d, 2, 9, rfl, hd, _, rfl, ?_⟩
    rcases h with ⟨hb, q⟩ | ⟨hb, hE⟩
    · rw [hb]; exact iteF q
    · rw [hb]; exact iteT (mkX_fin fun e he => hE H Ext.rfl' e he)
/-- what is refused at letter_lengths and places_for -/
def spLens (K : PySem.W.Frag) (A : Ad) : Sp := fun vs H Q E => (∃ (m : Addr) (ls : List (List Str × Int)) (n : Nat) (c : Int), vs = [.ref m, .int (n : Int), .int c] ∧ MlAt K A H m ls ∧ n ≤ 4 ∧ 2 ≤ c ∧ c ≤ 9 ∧ ∀ D H', Ext H H' → H D = none → H' D = some (.lst ((lens (shB n (hds ls)) c ls 0).map V.int)) → Q (.ref D) H') ∨
  (∃ v y z d, vs = [v, y, z] ∧ Dp K H v d ∧ ErrP A E H "mail") ∨ (∃ m ls y z d, vs = [.ref m, y, z] ∧ MlAt K A H m ls ∧ Dp K H y d ∧ betD d 0 4 = false ∧ ErrP A E H "places") ∨
  ∃ (m : Addr) (ls : List (List Str × Int)) (n : Nat) (z : V) (d : PyData), vs = [.ref m, .int (n : Int), z] ∧ MlAt K A H m ls ∧ n ≤ 4 ∧ Dp K H z d ∧ betD d 2 9 = false ∧ ErrP A E H "cost"
theorem bet_cost {c : Int} (h2 : 2 ≤ c) (h9 : c ≤ 9) : betD (.int c) 2 9 = true := by
  rw [bet_int, decide_eq_true h2, decide_eq_true h9]; rfl
theorem ok_lens {f : Addr} {fd : FuncData} (F : Fun K "letter_lengths" "letter_lengths" s_letter_lengths f fd) (T : Txt K mg A) (O_check_mail : Own P w K mg base (L2.CX P w) "check_mail" 3 pm_check_mail (spChkMail K A)) (O_check_places : Own P w K mg base (L2.CX P w) "check_places" 4 pm_check_places (spPlaces K A)) (O_check_cost : Own P w K mg base (L2.CX P w) "check_cost" 4 pm_check_cost (spChkCost K A)) (O_shorts : Own P w K mg base (L2.CX P w) "shorts" 6 pm_shorts (spShorts K A))
    (O_Mail_heads_told : OwnM P w K mg base CX0 A.Mail "heads_told" 1 pm_Mail_heads_told (spHdTold K A)) (O_Mail_letters_told : OwnM P w K mg base CX0 A.Mail "letters_told" 1 pm_Mail_letters_told (spLetTold K A)) : FnOk P w K mg base (L2.CX P w) 8 f fd pm_letter_lengths (spLens K A) := by
  refine F.okX sc_letter_lengths (fun vs H Q E h => ?_) (fun cdv A' outer sh H vs Q E hr h => ?_)
  · rcases h with ⟨_, _, _, _, rfl, _⟩ | ⟨_, _, _, _, rfl, _⟩ | ⟨_, _, _, _, _, rfl, _⟩ | ⟨_, _, _, _, _, rfl, _⟩ <;> rfl
  · refine ⟨_, pss_cons (ps_expr (pe_ownS O_check_mail (hr.mono (by decide)) (takes_of rfl rfl rfl rfl) (pa_cons (pv 0) pa_nil)))
      (pss_cons (ps_expr (pe_ownS O_check_places (hr.mono (by decide)) (takes_of rfl rfl rfl rfl) (pa_cons (pv 1) pa_nil)))
      (pss_cons (ps_expr (pe_ownS O_check_cost (hr.mono (by decide)) (takes_of rfl rfl rfl rfl) (pa_cons (pv 2) pa_nil)))
      (pss_cons (ps_setLc (i := 3) (own := [("short", 8)]) (g := gName 8) (by rfl) sc_letter_lengths.nd rfl rfl (sw_true rfl rfl rfl (by decide +kernel)) (pi_list (pe_ownS O_shorts (hr.mono (by decide)) (takes_of rfl rfl rfl rfl) (pa_cons (pe_ownM0 O_Mail_heads_told (pv 0) T.Mail.cl (hr.mono (by decide)) pass0) (pa_cons (pv 1) pa_nil)))) (blkOk_by (own := [("short", 8)]) (N := nm_letter_lengths) (sc := defScope s_letter_lengths) (by decide +kernel)) (fun _ _ _ _ _ => pg_name (i := 8) sc_letter_lengths.nd rfl (Or.inl rfl)) (fun s1 H1 C1 cl fp => pts_nil) (fun s1 H1 C1 cl fp => pe_ifExp (pt_truthK (K := K) rfl (pv 8) (by intro _; rfl)) (pe_int) (pv 2)))
      (pss_cons (ps_set (i := 4) sc_letter_lengths.nd rfl (Or.inl rfl) (pe_lst (pa_nil)))
      (pss_cons (ps_set (i := 5) sc_letter_lengths.nd rfl (Or.inl rfl) (pe_int))
      (pss_cons (ps_for (passes_of rfl) rfl (pi_list (pe_ownM0 O_Mail_letters_told (pv 0) T.Mail.cl (hr.mono (by decide)) pass0)) (pg_tup rfl (pgs_cons (pg_name (i := 6) sc_letter_lengths.nd rfl (Or.inl rfl)) (pgs_cons (pg_name (i := 7) sc_letter_lengths.nd rfl (Or.inl rfl)) (pgs_nil)))) (pss_cons (ps_expr (pe_bm PySem.F.plainAttrs_list PySem.F.slot_list_append PySem.F.type_list_append mt_append (pv 4) (pa_cons (pe_op op_add (pe_callB (cr_sum rfl) (by rfl) T.n_sum (by decide +kernel) (pa_cons (pe_slice sl_list (pv 3) (po_some (pv 5)) (po_some (pe_op op_add (pv 5) (pe_callB call_len_seq (by rfl) T.n_len (by decide +kernel) (pa_cons (pv 6) pa_nil))))) pa_nil)) (pv 7)) pa_nil)))
      (pss_one (ps_aug (i := 5) sc_letter_lengths.nd rfl (Or.inl rfl) (pe_callB call_len_seq (by rfl) T.n_len (by decide +kernel) (pa_cons (pv 6) pa_nil)) ip_add))))
      (pss_one (ps_ret (pv 4))))))))), ?_⟩
    rcases h with ⟨m, ls, n, c, rfl, hM, hn4, hc2, hc9, q⟩ | ⟨v, y, z, d, rfl, hd, hE⟩ | ⟨m, ls, y, z, d, rfl, hM, hd, hb, hE⟩ | ⟨m, ls, n, z, d, rfl, hM, hn4, hd, hb, hE⟩
    · obtain ⟨dx, fs, hm, hf1, hf2⟩ := hM.ins
      obtain ⟨L, hMA, hfl, hl18, hgood⟩ := hM
      refine ⟨_, rfl, _, rfl, .inl ⟨m, dx, _, rfl, hm, ?_⟩⟩
      refine ⟨_, rfl, _, .int (n : Int), rfl, .int _, fun z => (by rw [bet_nat hn4] at z; cases z), fun _ => ?_⟩
      refine ⟨_, rfl, _, .int c, rfl, .int _, .inl ⟨bet_cost hc2 hc9, ?_⟩⟩
      refine ⟨_, rfl, m, dx, _, rfl, hm, hf1, m, L, rfl, hMA, by rw [hfl, List.length_map]; exact hl18, fun l xs H1 e1 hln hl hxs => ?_⟩
      rw [hfl, hds_flat] at hxs
      have hxe := dps_str hxs
      subst hxe
      have hnm : ∀ u ∈ hds ls, nameS u = true := fun u hu => by
        obtain ⟨p, hp, hu⟩ := List.mem_flatMap.mp hu
        exact (hgood p hp).2.1 u hu
      have hsm := hds_small fun p hp => (hgood p hp).1
      refine ⟨_, rfl, .inl ⟨l, hds ls, n, rfl, .inl (SqL.of hl), hnm, by omega, hn4, fun D0 H2 e2 hD0 hl0 => ⟨D0, rfl, ⟨_, SqL.of hl0⟩, fun D hD => ?_⟩⟩⟩
      generalize hbs : shB n (hds ls) = bs at hl0 q
      have hbl : bs.length = (hds ls).length := by rw [← hbs, shB_len]
      refine lc_list (xs := bs.map V.bl) (fun i J => Ext H2 J ∧ J D = some (.lst (((bs.take i).map (costB c)).map V.int))) ⟨Ext.upd hD, upd_same⟩ (fun i J _ pv => SqL.of (pv.1 _ _ hl0)) (fun i x J hxi pv => ?_) (fun J pv => ?_)
      · rw [List.getElem?_map] at hxi
        obtain ⟨t, ht, rfl⟩ := Option.map_eq_some_iff.mp hxi
        have hil := (List.getElem?_eq_some_iff.mp ht).1
        have fin : ∃ acc, J D = some (.lst acc) ∧ acc.length < sizeLine ∧ Ext H2 (upd J D (.lst (acc ++ [V.int (costB c t)]))) ∧ upd J D (.lst (acc ++ [V.int (costB c t)])) D = some (.lst (((bs.take (i + 1)).map (costB c)).map V.int)) := by
          refine ⟨_, pv.2, small_sz (by rw [List.length_map, List.length_map, List.length_take]; omega), ext_mut pv.1 hD, ?_⟩
          rw [upd_same, L2.take_snoc ht, List.map_append, List.map_append]; rfl
        refine ⟨rfl, ?_⟩
        cases t with
        | true => exact ⟨_, rfl, _, rfl, iteT fin⟩
        | false => exact ⟨_, rfl, _, rfl, iteF ⟨_, rfl, fin⟩⟩
      obtain ⟨e3, hDc⟩ := pv
      rw [List.length_map, List.take_of_length_le (Nat.le_refl _)] at hDc
      refine ⟨by show 0 ≤ sizeLine; decide, fun R hR => ?_⟩
      have eR := Ext.upd (o := .lst []) hR
      have h03 := (e1.trans e2).trans e3
      refine ⟨_, rfl, m, dx, _, rfl, eR _ _ (h03 _ _ hm), hf2, m, L, rfl, hMA.ext (h03.trans eR), fun t zs H4 e4 htn ht hzs => ⟨t, rfl, ⟨_, SqL.of ht⟩, ?_⟩⟩
      have hRn : H R = none := ext_none h03 hR
      have hRt : R ≠ t := fun z => by rw [← z, upd_same] at htn; cases htn
      rw [hfl] at hzs
      have hzl := dps_len hzs
      rw [List.length_map] at hzl
      have hD4 := e4 _ _ (eR _ _ hDc)
      have hRD : D ≠ R := fun z => by rw [z, hR] at hDc; cases hDc
      refine for_list (xs := zs) (fun i σ' J => ∃ o6 o7, σ' = [some (.ref m), some (.int (n : Int)), some (.int c), some (.ref D), some (.ref R), some (.int (offs ls i : Nat)), o6, o7, none] ∧ Ext H J ∧ J t = some (.lst zs) ∧ J D = some (.lst ((bs.map (costB c)).map V.int)) ∧ J R = some (.lst (((lens bs c ls 0).take i).map V.int)) ∧ DpAll K J zs (ls.map ltD)) ⟨_, _, by rw [offs_zero]; rfl, (h03.trans eR).trans e4, ht, hD4, e4 _ _ upd_same, hzs⟩ (fun i σ' J _ pv => by obtain ⟨_, _, _, _, h, _⟩ := pv; exact SqL.of h) (fun i x σ' J hi pv => ?_) (fun σ' J pv => ?_)
      · obtain ⟨o6, o7, rfl, eJ, htJ, hDJ, hRJ, hzJ⟩ := pv
        obtain ⟨d, hdi, hdv⟩ := dps_get hzJ hi
        rw [List.getElem?_map] at hdi
        obtain ⟨p, hp, rfl⟩ := Option.map_eq_some_iff.mp hdi
        obtain ⟨a0, vs0, rfl, hs0, hd0⟩ := tup_at hdv
        cases hd0 with
        | cons b1 b2 =>
        cases b2 with
        | cons b2 b3 =>
        cases b3
        cases b2
        obtain ⟨a1, us1, rfl, hs1, hd1⟩ := tup_at b1
        have hu1 := dps_str hd1
        subst hu1
        have hpl := hgood p (List.mem_of_getElem? hp)
        have hil := (List.getElem?_eq_some_iff.mp hp).1
        have hof := offs_le ls i
        have hof1 := offs_le ls (i + 1)
        have hos := offs_succ ls i p hp
        refine ⟨_, _, rfl, hs0, rfl, _, _, rfl, _, _, rfl, rfl, ?_⟩
        refine ⟨_, rfl, .inl ⟨rfl, _, SqL.of hRJ⟩, _, rfl, _, rfl, _, rfl, _, rfl, _, rfl, a1, _, rfl, .inr hs1, _, _, rfl, rfl, _, rfl, D, _, rfl, SqL.of hDJ, fun c1 hc1 => ?_⟩
        have hcut : cutV ((bs.map (costB c)).map V.int) (some ((offs ls i : Nat) : Int)) (some (((offs ls i : Nat) : Int) + ((p.1.map V.str).length : Nat))) = (((bs.drop (offs ls i)).take p.1.length).map (costB c)).map V.int := by
          rw [List.length_map, show ((offs ls i : Nat) : Int) + (p.1.length : Nat) = ((offs ls i + p.1.length : Nat) : Int) from rfl, cut_at (Nat.le_add_right _ _), Nat.add_sub_cancel_left, List.map_map, List.map_map, List.map_take, List.map_drop]
        have ec := Ext.upd (o := .lst (cutV ((bs.map (costB c)).map V.int) (some ((offs ls i : Nat) : Int)) (some (((offs ls i : Nat) : Int) + ((p.1.map V.str).length : Nat))))) hc1
        have mc : upd J c1 (.lst (cutV ((bs.map (costB c)).map V.int) (some ((offs ls i : Nat) : Int)) (some (((offs ls i : Nat) : Int) + ((p.1.map V.str).length : Nat))))) c1 = some (.lst (cutV ((bs.map (costB c)).map V.int) (some ((offs ls i : Nat) : Int)) (some (((offs ls i : Nat) : Int) + ((p.1.map V.str).length : Nat))))) := upd_same
        generalize upd J c1 (.lst (cutV ((bs.map (costB c)).map V.int) (some ((offs ls i : Nat) : Int)) (some (((offs ls i : Nat) : Int) + ((p.1.map V.str).length : Nat))))) = J2 at ec mc ⊢
        rw [hcut] at mc
        have hR2 := ec _ _ hRJ
        have tk : ∀ a us, SqT K J a us → SqT K (upd J2 R (.lst (((lens bs c ls 0).take i).map V.int ++ [V.int ((((bs.drop (offs ls i)).take p.1.length).map (costB c)).sum + p.2)]))) a us := fun a us h => sqT_mutL hR2 (fun x o hx ho => by rw [upd_ne hx]; exact ho) (h.ext ec)
        have hv : V.int (((offs ls i : Nat) : Int) + ((p.1.map V.str).length : Nat)) = V.int ((offs ls (i + 1) : Nat) : Int) := by rw [hos, List.length_map]; rfl
        have hla := lens_at bs c ls 0 i p hp
        rw [Nat.zero_add] at hla
        refine ⟨c1, _, rfl, SqL.of mc, _, rfl, _, _, rfl, rfl, R, _, _, rfl, rfl, hR2, small_sz (by rw [List.length_map, List.length_take]; omega), ?_⟩
        refine ⟨_, rfl, _, rfl, a1, _, rfl, .inr (tk _ _ hs1), _, _, rfl, rfl, _, _, by rw [← hv]; rfl, ext_mut (eJ.trans ec) hRn, by rw [upd_ne hRt.symm]; exact ec _ _ htJ, by rw [upd_ne hRD]; exact ec _ _ hDJ, ?_, ?_⟩
        · rw [upd_same, L2.take_snoc hla, List.map_append]; rfl
        · refine lets_keep tk (fun d hd => ?_) hzJ
          have hd2 : d ∈ L.flatten := by rw [hfl]; exact hd
          obtain ⟨r, hr, hd2⟩ := List.mem_flatten.mp hd2
          obtain ⟨_, _, _, _, _, _, hlet⟩ := id hMA
          exact hlet r hr d hd2
      · obtain ⟨o6, o7, rfl, eJ, htJ, hDJ, hRJ, hzJ⟩ := pv
        rw [List.take_of_length_le (by rw [lens_len]; omega)] at hRJ
        exact ⟨_, rfl, q R J eJ hRn hRJ⟩
    · exact ⟨_, rfl, v, rfl, .inr ⟨d, hd, hE⟩⟩
    · obtain ⟨dx, fs, hm, hf1, hf2⟩ := hM.ins
      refine ⟨_, rfl, _, rfl, .inl ⟨m, dx, _, rfl, hm, ?_⟩⟩
      exact ⟨_, rfl, y, d, rfl, hd, fun _ => hE, fun z => (by rw [hb] at z; cases z)⟩
    · obtain ⟨dx, fs, hm, hf1, hf2⟩ := hM.ins
      refine ⟨_, rfl, _, rfl, .inl ⟨m, dx, _, rfl, hm, ?_⟩⟩
      refine ⟨_, rfl, _, .int (n : Int), rfl, .int _, fun z => (by rw [bet_nat hn4] at z; cases z), fun _ => ?_⟩
      exact ⟨_, rfl, z, d, rfl, hd, .inr ⟨hb, hE⟩⟩
theorem find_range {p : Nat → Bool} : ∀ {n i : Nat}, (∀ j, j < i → p j = false) → i < n → p i = true → (List.range n).find? p = some i
  | n + 1, i, h0, hi, hp => by
    rw [List.range_succ, List.find?_append]
    by_cases h : i < n
    · rw [find_range h0 h hp]; rfl
    · obtain rfl : i = n := by omega
      have : (List.range i).find? p = none := by
        rw [List.find?_eq_none]
        intro x hx
        rw [h0 x (List.mem_range.mp hx)]
        exact Bool.false_ne_true
      rw [this, List.find?_singleton, hp]; rfl
theorem find_range0 {p : Nat → Bool} {n : Nat} (h0 : ∀ j, j < n → p j = false) : (List.range n).find? p = none := by
  rw [List.find?_eq_none]
  intro x hx
  rw [h0 x (List.mem_range.mp hx)]
  exact Bool.false_ne_true
/-- the fewest places with which no letter is longer than most -/
def placesF (ls : List (List Str × Int)) (c most : Int) : Option Nat := (List.range 5).find? fun n => (lens (shB n (hds ls)) c ls 0).all fun z => decide (z ≤ most)
def spPlacesFor (K : PySem.W.Frag) (A : Ad) : Sp := fun vs H Q E => (∃ (m : Addr) (ls : List (List Str × Int)) (c most : Int), vs = [.ref m, .int c, .int most] ∧ MlAt K A H m ls ∧ 2 ≤ c ∧ c ≤ 9 ∧ 0 ≤ most ∧ ∀ H', Ext H H' → Q (oV (placesF ls c most)) H') ∨
  (∃ v y z d, vs = [v, y, z] ∧ Dp K H v d ∧ ErrP A E H "mail") ∨ (∃ m ls y z d, vs = [.ref m, y, z] ∧ MlAt K A H m ls ∧ Dp K H y d ∧ betD d 2 9 = false ∧ ErrP A E H "cost") ∨
  ∃ (m : Addr) (ls : List (List Str × Int)) (c : Int) (z : V) (d : PyData), vs = [.ref m, .int c, z] ∧ MlAt K A H m ls ∧ 2 ≤ c ∧ c ≤ 9 ∧ Dp K H z d ∧ (d = .int (-1) ∨ d = .bool true) ∧ ErrP A E H "most"
theorem ok_placesFor {f : Addr} {fd : FuncData} (F : Fun K "places_for" "places_for" s_places_for f fd) (T : Txt K mg A) (O_check_mail : Own P w K mg base (L2.CX P w) "check_mail" 3 pm_check_mail (spChkMail K A)) (O_check_cost : Own P w K mg base (L2.CX P w) "check_cost" 4 pm_check_cost (spChkCost K A)) (O_is_integer : Own P w K mg base CX0 "is_integer" 1 pm_is_integer (spInteger K)) (O_letter_lengths : Own P w K mg base (L2.CX P w) "letter_lengths" 8 pm_letter_lengths (spLens K A)) (X_BadPart : XCls P w K mg base "BadPart" "part" A.BadPart) : FnOk P w K mg base (L2.CX P w) 10 f fd pm_places_for (spPlacesFor K A) := by
  refine F.okX sc_places_for (fun vs H Q E h => ?_) (fun cdv A' outer sh H vs Q E hr h => ?_)
  · rcases h with ⟨_, _, _, _, rfl, _⟩ | ⟨_, _, _, _, rfl, _⟩ | ⟨_, _, _, _, _, rfl, _⟩ | ⟨_, _, _, _, _, rfl, _⟩ <;> rfl
  · refine ⟨_, pss_cons (ps_expr (pe_ownS O_check_mail (hr.mono (by decide)) (takes_of rfl rfl rfl rfl) (pa_cons (pv 0) pa_nil)))
      (pss_cons (ps_expr (pe_ownS O_check_cost (hr.mono (by decide)) (takes_of rfl rfl rfl rfl) (pa_cons (pv 1) pa_nil)))
      (pss_cons (ps_if (PW.pt (pw_or (pt_not (pt_val (pe_own O_is_integer (hr.mono (by decide)) pass0 (pa_cons (pv 2) pa_nil)))) (pw_or1 (pt_cmpR op_lt (pv 2) (pe_int) (nomark _))))) (pss_one (ps_raise rfl (takes_of rfl rfl rfl rfl) (pmk_X X_BadPart (hr.mono (by decide)) (pe_str) rfl))) (pss_nil))
      (pss_cons (ps_for (passes_of rfl) rfl (pi_range1 rfl T.n_range (pa_cons (pe_op op_add (pe_gint T.g_MOST_PLACES) (pe_int)) pa_nil)) (pg_name (i := 3) sc_places_for.nd rfl (Or.inl rfl)) (pss_one (ps_if (pt_val (pe_callB (cr_all rfl) (by rfl) T.n_all (by decide +kernel) (pa_cons (pe_lc (own := [("length", 4)]) (g := gName 4) (by rfl) sc_places_for.nd (pi_list (pe_ownS O_letter_lengths (hr.mono (by decide)) (takes_of rfl rfl rfl rfl) (pa_cons (pv 0) (pa_cons (pv 3) (pa_cons (pv 1) pa_nil))))) (blkOk_by (own := [("length", 4)]) (N := nm_places_for) (sc := defScope s_places_for) (by decide +kernel)) (fun _ _ _ _ _ => pg_name (i := 4) sc_places_for.nd rfl (Or.inl rfl)) (fun s1 H1 C1 cl fp => pts_nil) (fun s1 H1 C1 cl fp => pe_cmpR op_le (pv 4) (pv 2) (nomark _))) pa_nil))) (pss_one (ps_ret (pv 3))) (pss_nil))))
      (pss_one (ps_ret (pe_non)))))), ?_⟩
    rcases h with ⟨m, ls, c, most, rfl, hM, hc2, hc9, h0, q⟩ | ⟨v, y, z, d, rfl, hd, hE⟩ | ⟨m, ls, y, z, d, rfl, hM, hd, hb, hE⟩ | ⟨m, ls, c, z, d, rfl, hM, hc2, hc9, hd, hb, hE⟩
    · obtain ⟨dx, fs, hm, hf1, hf2⟩ := hM.ins
      refine ⟨_, rfl, _, rfl, .inl ⟨m, dx, _, rfl, hm, ?_⟩⟩
      refine ⟨_, rfl, _, .int c, rfl, .int _, .inl ⟨bet_cost hc2 hc9, ?_⟩⟩
      refine ⟨_, rfl, _, .int most, rfl, .int _, _, rfl, iteF ⟨_, rfl, _, _, rfl, rfl, _, rfl, ?_⟩⟩
      rw [decide_eq_false (by omega)]
      refine iteF ?_
      refine ⟨_, _, rfl, rfl, _, rfl, by decide, by decide, ?_⟩
      refine for_range (lo := 0) (n := 5) (fun i σ' J => Ext H J ∧ (∃ o3, σ' = [some (.ref m), some (.int c), some (.int most), o3, none]) ∧ ∀ j, j < i → ((lens (shB j (hds ls)) c ls 0).all fun z => decide (z ≤ most)) = false) ⟨Ext.rfl', ⟨_, rfl⟩, fun j hj => absurd hj (Nat.not_lt_zero _)⟩ (fun i σ' J hi pv => ?_) (fun σ' J pv => ?_)
      · obtain ⟨e, ⟨o3, rfl⟩, hno⟩ := pv
        have hi4 : i ≤ 4 := by omega
        refine ⟨_, rfl, _, rfl, _, rfl, .inl ⟨m, ls, i, c, by rw [Int.zero_add], hM.ext e, hi4, hc2, hc9, fun D0 H2 e2 hD0 hl0 => ⟨D0, rfl, ⟨_, SqL.of hl0⟩, fun D hD => ?_⟩⟩⟩
        generalize hls : lens (shB i (hds ls)) c ls 0 = zs at hl0
        have hzl : zs.length ≤ 18 := by rw [← hls, lens_len]; exact hM.small
        refine lc_list (xs := zs.map V.int) (fun j J => Ext H2 J ∧ J D = some (.lst (((zs.take j).map fun z => decide (z ≤ most)).map V.bl))) ⟨Ext.upd hD, upd_same⟩ (fun j J _ pv => SqL.of (pv.1 _ _ hl0)) (fun j x J hxj pv => ?_) (fun J pv => ?_)
        · rw [List.getElem?_map] at hxj
          obtain ⟨z, hz, rfl⟩ := Option.map_eq_some_iff.mp hxj
          have hjl := (List.getElem?_eq_some_iff.mp hz).1
          refine ⟨rfl, _, rfl, _, rfl, _, _, rfl, rfl, _, pv.2, small_sz (by rw [List.length_map, List.length_map, List.length_take]; omega), ext_mut pv.1 hD, ?_⟩
          rw [upd_same, L2.take_snoc hz, List.map_append, List.map_append]; rfl
        · have h2 := pv.2
          rw [List.length_map, List.take_of_length_le (Nat.le_refl _)] at h2
          refine ⟨D, _, rfl, SqL.of h2, _, rfl, ?_⟩
          rw [List.all_map]
          show if (zs.all fun z => decide (z ≤ most)) = true then _ else _
          cases ha : zs.all fun z => decide (z ≤ most) with
          | true =>
            refine iteT ⟨_, rfl, ?_⟩
            have := q J ((e.trans e2).trans pv.1)
            unfold placesF at this
            rw [find_range hno (show i < 5 by omega) (by rw [hls]; exact ha)] at this
            rw [Int.zero_add]
            exact this
          | false =>
            refine iteF ⟨(e.trans e2).trans pv.1, ⟨_, rfl⟩, fun j hj => ?_⟩
            rcases Nat.lt_succ_iff_lt_or_eq.mp hj with hj | rfl
            · exact hno j hj
            · rw [hls]; exact ha
      · obtain ⟨e, _, hno⟩ := pv
        have := q J e
        unfold placesF at this
        rw [find_range0 hno] at this
        exact this
    · exact ⟨_, rfl, v, rfl, .inr ⟨d, hd, hE⟩⟩
    · obtain ⟨dx, fs, hm, hf1, hf2⟩ := hM.ins
      refine ⟨_, rfl, _, rfl, .inl ⟨m, dx, _, rfl, hm, ?_⟩⟩
      exact ⟨_, rfl, y, d, rfl, hd, .inr ⟨hb, hE⟩⟩
    · obtain ⟨dx, fs, hm, hf1, hf2⟩ := hM.ins
      refine ⟨_, rfl, _, rfl, .inl ⟨m, dx, _, rfl, hm, ?_⟩⟩
      refine ⟨_, rfl, _, .int c, rfl, .int _, .inl ⟨bet_cost hc2 hc9, ?_⟩⟩
      rcases hb with rfl | rfl
      · cases hd
        refine ⟨_, rfl, _, .int (-1), rfl, .int _, _, rfl, iteF ⟨_, rfl, _, _, rfl, rfl, _, rfl, ?_⟩⟩
        exact iteT (mkX_fin fun e he => hE H Ext.rfl' e he)
      · cases hd
        exact ⟨_, rfl, _, .bool true, rfl, .bl _, _, rfl, iteT (mkX_fin fun e he => hE H Ext.rfl' e he)⟩
end
end K02

set_option Elab.async false
set_option maxRecDepth 100000
set_option maxHeartbeats 4000000
namespace K02
open PySem PySem.Spec PyProof.Rows L2
/-! ### what is drawn by -/
def PoolD (H : Hp) (st : Addr) : Prop := ∃ a b : Int, H st = some (.lst [.int a, .int b]) ∧ 0 ≤ b ∧ b < 2147483647
def ExtM (st : Addr) (H H' : Hp) : Prop := ∀ x o, x ≠ st → H x = some o → H' x = some o
theorem ExtM.rfl' {st : Addr} {H : Hp} : ExtM st H H := fun _ _ _ h => h
theorem ExtM.trans {st : Addr} {H H1 H2 : Hp} (a : ExtM st H H1) (c : ExtM st H1 H2) : ExtM st H H2 := fun x o h e => c x o h (a x o h e)
theorem Ext.m {st : Addr} {H H' : Hp} (h : Ext H H') : ExtM st H H' := fun x o _ e => h x o e
theorem PoolD.ext {st : Addr} {H H' : Hp} (h : PoolD H st) (e : Ext H H') : PoolD H' st := by
  obtain ⟨a, b, hs, h⟩ := h
  exact ⟨a, b, e _ _ hs, h⟩
theorem PoolD.new {st l : Addr} {H : Hp} (h : PoolD H st) (hl : H l = none) : l ≠ st := by
  obtain ⟨a, b, hs, _⟩ := h
  exact (ne_of_none hs hl).symm
theorem ExtM.none {st t : Addr} {H H' : Hp} (e : ExtM st H H') (h1 : t ≠ st) (h : H' t = none) : H t = none := by
  cases z : H t with
  | none => rfl
  | some o =>
    rw [e t o h1 z] at h
    cases h
theorem mut1 {st : Addr} (o : HO) (H1 : Hp) : ExtM st H1 (upd H1 st o) := fun x u hx h => by
  rw [upd_ne hx]
  exact h
theorem get_int {ns : List Int} {k : Nat} (h : k < ns.length) : (ns.map V.int)[k]? = some (.int (ns.getD k 0)) := by
  rw [List.getElem?_map, List.getElem?_eq_getElem h, List.getD_eq_getElem?_getD, List.getElem?_eq_getElem h]
  rfl
section
variable {P : Program} {w : World} {K : PySem.W.Frag} {mg : Str → Option Value} {base : Heap} {A : Ad}
def spPool (K : PySem.W.Frag) : Sp := fun vs H Q _ => ∃ (sc : Addr) (ns : List Int) (k : Nat), vs = [.ref sc, .int (k : Int)] ∧ SqL K H sc (ns.map V.int) ∧ ns.length ≤ 63 ∧ k ≤ 100 ∧ ∀ st H', Ext H H' → H st = none → PoolD H' st → Q (.ref st) H'
theorem ok_pool {f : Addr} {fd : FuncData} (F : Fun K "_law_pool" "_law_pool" s__law_pool f fd) (T : Txt K mg A) : FnOk P w K mg base CX0 1 f fd pm__law_pool (spPool K) := by
  refine F.ok sc__law_pool (fun vs H Q E h => ?_) (fun cdv A' outer s H vs Q E hr h => ?_)
  · obtain ⟨_, _, _, rfl, _⟩ := h
    rfl
  · obtain ⟨sc, ns, k, rfl, hs, hl, hk, q⟩ := h
    refine ⟨_, Evl.pss_cut (ps_set (i := 2) sc__law_pool.nd rfl (Or.inl rfl) (pe_ifExp (pt_cmpR op_lt (pv 1) (pe_callB call_len_seq (by rfl) T.n_len (by decide +kernel) (pa_cons (pv 0) pa_nil)) (nomark _)) (pe_ix ix_list (pv 0) (pv 1) (fun _ _ => rfl)) (pe_op op_add (pe_op op_mul (pe_int) (pe_callB (cr_sum rfl) (by rfl) T.n_sum (by decide +kernel) (pa_cons (pe_slice sl_list (pv 0) po_none (po_some (pe_int))) pa_nil))) (pv 1))))
      (pss_cons (ps_set (i := 3) sc__law_pool.nd rfl (Or.inl rfl) (pe_callB call_abs (by rfl) T.n_abs (by decide +kernel) (pa_cons (pv 2) pa_nil)))
      (pss_cons (ps_set (i := 4) sc__law_pool.nd rfl (Or.inl rfl) (pe_op op_add (pe_op op_add (pe_op op_add (pe_op op_mod (pe_callTy call_int1 (by rfl) T.n_int (by decide +kernel) (pa_cons (pv 3) pa_nil)) (pe_int)) (pe_op op_mul (pe_op op_mul (pe_int) (pv 1)) (pv 1))) (pe_op op_mul (pe_int) (pv 1))) (pe_int)))
      (pss_cons (ps_set (i := 4) sc__law_pool.nd rfl (Or.inl rfl) (pe_op op_mod (pe_callTy call_int1 (by rfl) T.n_int (by decide +kernel) (pa_cons (pe_op op_mul (pv 4) (pe_int)) pa_nil)) (pe_int)))
      (pss_one (ps_ret (pe_lst (pa_cons (pe_op op_mul (pv 3) (pe_callTy call_int1 (by rfl) T.n_int (by decide +kernel) (pa_cons (pe_cmpR op_ge (pv 3) (pe_op op_pow (pe_int) (pe_int)) (nomark _)) pa_nil))) (pa_cons (pe_op op_mod (pe_callTy call_int1 (by rfl) T.n_int (by decide +kernel) (pa_cons (pe_op op_mul (pv 4) (pv 4)) pa_nil)) (pe_int)) pa_nil)))))))), ?_⟩
    refine ⟨fun σ H' => ∃ c : Int, σ = [some (.ref sc), some (.int (k : Int)), some (.int c), Option.none, Option.none] ∧ Ext H H', ?_, ?_⟩
    · refine ⟨_, rfl, _, rfl, sc, _, rfl, .inl hs, _, _, rfl, rfl, _, rfl, ?_⟩
      rw [List.length_map]
      by_cases hkl : (k : Int) < (ns.length : Int)
      · rw [decide_eq_true hkl]
        exact iteT ⟨_, rfl, _, rfl, sc, _, _, .int (ns.getD k 0), rfl, rfl, hs, atI_nat (get_int (by omega)), _, rfl, Ext.rfl'⟩
      · rw [decide_eq_false hkl]
        have hc : cutV (ns.map V.int) none (some ((63 : Nat) : Int)) = (ns.take 63).map V.int := by rw [cut_to, List.map_take]
        refine iteF ⟨_, rfl, 63, rfl, sc, _, rfl, hs, fun l hl => ⟨l, ns.take 63, rfl, SqL.of (by rw [upd_same]; exact congrArg (fun x => some (HO.lst x)) hc), _, _, rfl, rfl, .inl ⟨by decide, by decide⟩, _, rfl, _, _, rfl, rfl, _, rfl, Ext.upd hl⟩⟩
    · rintro σ H' ⟨c, rfl, e1⟩
      refine ⟨_, rfl, c, rfl, ?_⟩
      generalize (if c < 0 then -c else c) = big
      refine ⟨_, rfl, .inl ⟨_, rfl, _, _, rfl, rfl, (show (0 : Int) < 2147483629 by decide), ?_⟩⟩
      refine ⟨_, rfl, _, _, rfl, rfl, .inl ⟨by decide, by decide⟩, _, rfl, _, _, rfl, rfl, .inl ⟨by omega, by omega⟩, _, _, rfl, rfl, _, rfl, _, _, rfl, rfl, .inl ⟨by decide, by decide⟩, _, _, rfl, rfl, _, _, rfl, rfl, _, rfl, _, _, rfl, rfl, .inr ⟨by decide, by decide⟩, .inl ⟨_, rfl, _, _, rfl, rfl, (show (0 : Int) < 2147483647 by decide), ?_⟩⟩
      generalize (big % 2147483629 + 7919 * (k : Int) * (k : Int) + 31 * (k : Int) + 17) * 48271 = z
      have m0 : 0 ≤ z % 2147483647 := Int.emod_nonneg _ (by decide)
      have m1 : z % 2147483647 < 2147483647 := Int.emod_lt_of_pos _ (by decide)
      generalize z % 2147483647 = m at m0 m1 ⊢
      refine ⟨_, rfl, _, rfl, _, _, rfl, rfl, ⟨by decide, by decide, by decide⟩, _, _, rfl, rfl, .inr ⟨_, rfl, _, _, rfl, rfl, .inr ?_, _, rfl, _, rfl, _, _, rfl, rfl, .inl ⟨by omega, by omega⟩, .inl ⟨_, rfl, _, _, rfl, rfl, (show (0 : Int) < 2147483629 by decide), by show 2 ≤ sizeLine; decide, fun st hst => ?_⟩⟩⟩
      · split <;> decide
      · exact q st _ (e1.trans (Ext.upd hst)) (ext_none e1 hst) ⟨_, _, upd_same, Int.emod_nonneg _ (by decide), Int.lt_trans (Int.emod_lt_of_pos _ (by decide)) (by decide)⟩
def spDraw : Sp := fun vs H Q _ => ∃ (st : Addr) (B : Int), vs = [.ref st, .int B] ∧ PoolD H st ∧ 1 ≤ B ∧ B ≤ 100000 ∧ ∀ n H', 0 ≤ n → n < B → PoolD H' st → ExtM st H H' → Q (.int n) H'
theorem ok_draw {f : Addr} {fd : FuncData} (F : Fun K "_law_draw" "_law_draw" s__law_draw f fd) (T : Txt K mg A) : FnOk P w K mg base CX0 1 f fd pm__law_draw spDraw := by
  refine F.ok sc__law_draw (fun vs H Q E h => ?_) (fun cdv A' outer s H vs Q E hr h => ?_)
  · obtain ⟨_, _, rfl, _⟩ := h
    rfl
  · obtain ⟨st, B, rfl, ⟨a, b, hst, b0, b1⟩, hB, hB2, k⟩ := h
    refine ⟨_, pss_cons (ps_if (pt_cmpR op_gt (pe_ix ix_list (pv 0) (pe_int) (fun _ _ => rfl)) (pe_int) (nomark _)) (pss_cons (ps_set (i := 2) sc__law_draw.nd rfl (Or.inl rfl) (pe_op op_modN (pe_callTy call_int1 (by rfl) T.n_int (by decide +kernel) (pa_cons (pe_ix ix_list (pv 0) (pe_int) (fun _ _ => rfl)) pa_nil)) (pv 1)))
      (pss_cons (ps_asg (pe_op op_fdivN (pe_ix ix_list (pv 0) (pe_int) (fun _ _ => rfl)) (pv 1)) (pg_sub (pv 0) (pe_int) set_list))
      (pss_one (ps_ret (pv 2))))) (pss_nil))
      (pss_cons (ps_asg (pe_op op_mod (pe_callTy call_int1 (by rfl) T.n_int (by decide +kernel) (pa_cons (pe_op op_add (pe_op op_mul (pe_ix ix_list (pv 0) (pe_int) (fun _ _ => rfl)) (pe_int)) (pe_int)) pa_nil)) (pe_int)) (pg_sub (pv 0) (pe_int) set_list))
      (pss_one (ps_ret (pe_op op_modN (pe_callTy call_int1 (by rfl) T.n_int (by decide +kernel) (pa_cons (pe_op op_fdiv (pe_op op_mod (pe_callTy call_int1 (by rfl) T.n_int (by decide +kernel) (pa_cons (pe_op op_mul (pe_ix ix_list (pv 0) (pe_int) (fun _ _ => rfl)) (pe_ix ix_list (pv 0) (pe_int) (fun _ _ => rfl))) pa_nil)) (pe_int)) (pe_int)) pa_nil)) (pv 1))))), ?_⟩
    refine ⟨_, rfl, st, _, 0, .int a, rfl, rfl, SqL.of hst, rfl, _, _, rfl, rfl, _, rfl, ?_⟩
    by_cases ha : a > 0
    · rw [decide_eq_true ha]
      refine iteT ⟨_, rfl, st, _, 0, .int a, rfl, rfl, SqL.of hst, rfl, .inl ⟨_, rfl, _, rfl, _, _, rfl, rfl, (by show B ≠ 0; omega), ?_⟩⟩
      refine ⟨_, rfl, st, _, 0, .int a, rfl, rfl, SqL.of hst, rfl, _, rfl, _, _, rfl, rfl, ⟨by omega, by omega⟩, _, rfl, st, _, 0, 0, rfl, rfl, hst, rfl, ?_⟩
      exact ⟨_, rfl, k _ _ (Int.fmod_nonneg_of_pos _ (by omega)) (Int.fmod_lt_of_pos _ (by omega)) ⟨_, _, upd_same, b0, b1⟩ (mut1 _ _)⟩
    · rw [decide_eq_false ha]
      refine iteF ?_
      refine ⟨_, rfl, st, _, 1, .int b, rfl, rfl, SqL.of hst, rfl, _, _, rfl, rfl, .inr ⟨by decide, by decide⟩, _, _, rfl, rfl, .inl ⟨_, rfl, _, _, rfl, rfl, (show (0 : Int) < 2147483647 by decide), ?_⟩⟩
      refine ⟨_, rfl, st, _, 1, 1, rfl, rfl, hst, rfl, ?_⟩
      have c0 : 0 ≤ (b * 48271 + 11) % 2147483647 := Int.emod_nonneg _ (by decide)
      have c1 : (b * 48271 + 11) % 2147483647 < 2147483647 := Int.emod_lt_of_pos _ (by decide)
      generalize hz : (b * 48271 + 11) % 2147483647 = c at c0 c1
      have hs1 : upd H st (.lst ([V.int a, .int b].set 1 (.int ((b * 48271 + 11) % 2147483647)))) st = some (.lst [.int a, .int c]) := by rw [hz, upd_same]; rfl
      have x1 : ExtM st H (upd H st (.lst ([V.int a, .int b].set 1 (.int ((b * 48271 + 11) % 2147483647))))) := mut1 _ _
      generalize upd H st (.lst ([V.int a, .int b].set 1 (.int ((b * 48271 + 11) % 2147483647)))) = H1 at hs1 x1 ⊢
      refine ⟨_, rfl, st, _, 1, .int c, rfl, rfl, SqL.of hs1, rfl, _, rfl, st, _, 1, .int c, rfl, rfl, SqL.of hs1, rfl, _, _, rfl, rfl, .inl ⟨by omega, by omega⟩, .inl ⟨_, rfl, _, _, rfl, rfl, (show (0 : Int) < 2147483629 by decide), ?_⟩⟩
      refine ⟨_, _, rfl, rfl, ⟨by decide, by decide⟩, .inl ⟨_, rfl, _, rfl, _, _, rfl, rfl, (by show B ≠ 0; omega), ?_⟩⟩
      exact k _ _ (Int.fmod_nonneg_of_pos _ (by omega)) (Int.fmod_lt_of_pos _ (by omega)) ⟨_, _, hs1, c0, c1⟩ x1
end
end K02

set_option Elab.async false
set_option maxRecDepth 100000
set_option maxHeartbeats 4000000
namespace K02
open PySem PySem.Spec PyProof.Rows L2
def five : List Str := ["a", "b", "cc", "abcdefgh", "z"]
theorem five_ok : ∀ h ∈ five, nameS h = true := by decide +kernel
theorem map_take5 {c : Nat} : ([V.str "a", .str "b", .str "cc", .str "abcdefgh", .str "z"] : List V).take c = (five.take c).map V.str := by
  rw [List.map_take]
  rfl
section
variable {P : Program} {w : World} {K : PySem.W.Frag} {mg : Str → Option Value} {base : Heap} {A : Ad}
def spPick : Sp := fun vs H Q _ => ∃ (st l : Addr) (xs : List V), vs = [.ref st, .ref l] ∧ PoolD H st ∧ H l = some (.lst xs) ∧ l ≠ st ∧ 1 ≤ xs.length ∧ xs.length ≤ 1000 ∧ ∀ (i : Nat) (v : V) H', xs[i]? = some v → PoolD H' st → ExtM st H H' → Q v H'
theorem ok_pick {f : Addr} {fd : FuncData} (F : Fun K "_law_pick" "_law_pick" s__law_pick f fd) (T : Txt K mg A) (O__law_draw : Own P w K mg base CX0 "_law_draw" 1 pm__law_draw spDraw) : FnOk P w K mg base CX0 2 f fd pm__law_pick spPick := by
  refine F.ok sc__law_pick (fun vs H Q E h => ?_) (fun cdv A' outer s H vs Q E hr h => ?_)
  · obtain ⟨_, _, _, rfl, _⟩ := h
    rfl
  · obtain ⟨st, l, xs, rfl, hst, hl, hne, h1, h2, k⟩ := h
    refine ⟨_, pss_one (ps_ret (pe_ix ix_list (pv 1) (pe_own O__law_draw (hr.mono (by decide)) pass0 (pa_cons (pv 0) (pa_cons (pe_callB call_len_seq (by rfl) T.n_len (by decide +kernel) (pa_cons (pv 1) pa_nil)) pa_nil))) (fun _ _ => rfl))), ?_⟩
    refine ⟨_, rfl, _, rfl, _, rfl, l, xs, rfl, .inl (SqL.of hl), st, _, rfl, hst, by omega, by omega, fun n H1 n0 n1 st1 x1 => ?_⟩
    obtain ⟨i, rfl⟩ : ∃ i : Nat, n = (i : Int) := ⟨n.toNat, by omega⟩
    obtain ⟨v, hv⟩ : ∃ v, xs[i]? = some v := ⟨_, List.getElem?_eq_getElem (by omega)⟩
    exact ⟨l, xs, _, v, rfl, rfl, SqL.of (x1 l _ hne hl), atI_nat hv, k i v H1 hv st1 x1⟩
def spLHeads : Sp := fun vs H Q _ => ∃ (st : Addr) (m c : Nat), vs = [.ref st, .int (m : Int), .int (c : Int)] ∧ PoolD H st ∧ m ≤ 1000 ∧ 1 ≤ c ∧ c ≤ 5 ∧ ∀ (D : Addr) (hs : List Str) H', H D = none → H' D = some (.lst (hs.map V.str)) → hs.length = m → (∀ h, h ∈ hs → h ∈ five) → PoolD H' st → ExtM st H H' → Q (.ref D) H'
theorem ok_lheads {f : Addr} {fd : FuncData} (F : Fun K "_law_heads" "_law_heads" s__law_heads f fd) (T : Txt K mg A) (O__law_pick : Own P w K mg base CX0 "_law_pick" 2 pm__law_pick spPick) : FnOk P w K mg base CX0 3 f fd pm__law_heads spLHeads := by
  refine F.ok sc__law_heads (fun vs H Q E h => ?_) (fun cdv A' outer s H vs Q E hr h => ?_)
  · obtain ⟨_, _, _, rfl, _⟩ := h
    rfl
  · obtain ⟨st, m, c, rfl, hst, hm, c1, c5, k⟩ := h
    refine ⟨_, pss_one (ps_ret (pe_lc (own := [("_law_turn", 3)]) (g := gName 3) (by rfl) sc__law_heads.nd (pi_range1 rfl T.n_range (pa_cons (pv 1) pa_nil)) (blkOk_by (own := [("_law_turn", 3)]) (N := nm__law_heads) (sc := defScope s__law_heads) (by decide +kernel)) (fun _ _ _ _ _ => pg_name (i := 3) sc__law_heads.nd rfl (Or.inl rfl)) (fun s1 H1 C1 cl fp => pts_nil) (fun s1 H1 C1 cl fp => pe_own O__law_pick (hr.mono (by decide)) pass0 (pa_cons (pv 0) (pa_cons (pe_slice (sl_listK (K := K) rfl) (pe_lst (pa_cons (pe_str) (pa_cons (pe_str) (pa_cons (pe_str) (pa_cons (pe_str) (pa_cons (pe_str) pa_nil)))))) po_none (po_some (pv 2))) pa_nil))))), ?_⟩
    refine ⟨_, rfl, _, rfl, by omega, by omega, fun D hD => ?_⟩
    have nD := hst.new hD
    refine lc_range (fun i H' => ∃ hs : List Str, H' D = some (.lst (hs.map V.str)) ∧ hs.length = i ∧ (∀ h, h ∈ hs → h ∈ five) ∧ PoolD H' st ∧ ExtM st H H') ⟨[], upd_same, rfl, (fun _ h => nomatch h), hst.ext (Ext.upd hD), Ext.m (Ext.upd hD)⟩ (fun i H' hi pv => ?_) (fun H' pv => ?_)
    · obtain ⟨hs, hr1, hl, hf, sp, xp⟩ := pv
      refine ⟨rfl, ⟨_, rfl, by show 5 ≤ sizeLine; decide, fun p hp => ⟨_, rfl, c, rfl, p, _, rfl, SqL.of upd_same, fun l hl1 => ?_⟩⟩⟩
      have sp2 := (sp.ext (Ext.upd (o := .lst [V.str "a", .str "b", .str "cc", .str "abcdefgh", .str "z"]) hp)).ext (Ext.upd (o := .lst (cutV [V.str "a", .str "b", .str "cc", .str "abcdefgh", .str "z"] none (some (c : Int)))) hl1)
      have nl : l ≠ st := (sp.ext (Ext.upd (o := .lst [V.str "a", .str "b", .str "cc", .str "abcdefgh", .str "z"]) hp)).new hl1
      have hlen : ((five.take c).map V.str).length = c := by
        rw [List.length_map, List.length_take]
        show min c 5 = c
        omega
      refine ⟨st, l, (five.take c).map V.str, rfl, sp2, by rw [upd_same, cut_to, map_take5], nl, by omega, by omega, fun j v H2 hj st2 x2 => ?_⟩
      rw [List.getElem?_map] at hj
      obtain ⟨h, hh, rfl⟩ := Option.map_eq_some_iff.mp hj
      have hr2 := x2 _ _ nD (Ext.upd (o := .lst (cutV [V.str "a", .str "b", .str "cc", .str "abcdefgh", .str "z"] none (some (c : Int)))) hl1 _ _ (Ext.upd (o := .lst [V.str "a", .str "b", .str "cc", .str "abcdefgh", .str "z"]) hp _ _ hr1))
      refine ⟨_, hr2, ?_, hs ++ [h], ?_, by rw [List.length_append, hl]; rfl, fun x hx => ?_, ?_, ?_⟩
      · rw [List.length_map]
        exact small_sz (by omega)
      · rw [upd_same, List.map_append]
        rfl
      · rcases List.mem_append.mp hx with h' | h'
        · exact hf x h'
        · rw [List.mem_singleton.mp h']
          exact List.mem_of_mem_take (List.mem_of_getElem? hh)
      · obtain ⟨a, b, h1, h2⟩ := st2
        exact ⟨a, b, by rw [upd_ne nD.symm]; exact h1, h2⟩
      · exact fun u o hu ho => by
          rw [upd_ne (ne_of_none ho hD)]
          exact x2 u o hu (Ext.upd hl1 _ _ (Ext.upd hp _ _ (xp u o hu ho)))
    · obtain ⟨hs, hr1, hl, hf, sp, xp⟩ := pv
      exact k D hs H' hD hr1 (by omega) hf sp xp
end
end K02

set_option Elab.async false
set_option maxRecDepth 100000
set_option maxHeartbeats 4000000
namespace K02
open PySem PySem.Spec PyProof.Rows L2
def Good (n : Nat) (s : St Str) : Prop := n ≤ 4 ∧ ∃ ns, Ok n s ns ∧ ∀ x, x ∈ ns → nameS x = true
theorem good_run {n : Nat} (hn : n ≤ 4) {us : List Str} (h : ∀ u, u ∈ us → nameS u = true) : Good n (run n us) := by
  obtain ⟨ns, o, hs⟩ := ok_run (n := n) us
  exact ⟨hn, ns, o, fun x hx => h x (hs x hx)⟩
theorem good_step {n : Nat} {s : St Str} (g : Good n s) {h : Str} (hh : nameS h = true) : Good n (step s h) := by
  obtain ⟨hn, ns, o, hs⟩ := g
  obtain ⟨ns', o', h'⟩ := ok_step o h
  refine ⟨hn, ns', o', fun x hx => ?_⟩
  rcases h' x hx with h | rfl
  · exact hs x h
  · exact hh
theorem al_small : ∀ c ∈ (("abcdefghijklmnopqrstuvwxyz" : Str)).cps.toList, c < 128 := by decide +kernel
theorem name_ok {s : Str} (h : nameS s = true) : PyData.strOk s = true := by
  unfold nameS at h
  rw [Bool.and_eq_true, List.all_eq_true] at h
  unfold PyData.strOk
  rw [← Array.all_toList, List.all_eq_true]
  intro c hc
  have z := h.2 c hc
  unfold inAl at z
  rw [decide_eq_true_eq] at z
  have := al_small c z
  rw [decide_eq_true_eq]
  omega
theorem fl_sV {s : St Str} {n : Nat} (g : Good n s) : ∀ v ∈ s.1.map sV, Fl v := by
  intro v hv
  obtain ⟨o, ho, rfl⟩ := List.mem_map.mp hv
  cases o with
  | none => trivial
  | some x =>
    obtain ⟨_, ns, ok, hs⟩ := g
    exact name_ok (hs x (ok.mem.mp ho))
theorem eqv_sV : ∀ S T : List (Option Str), PyData.eqvAll ((S.map sV).map pd) ((T.map sV).map pd) = decide (S = T)
  | [], [] => rfl
  | [], _ :: _ => rfl
  | _ :: _, [] => rfl
  | a :: S, b :: T => by
    show (PyData.eqv (pd (sV a)) (pd (sV b)) && PyData.eqvAll ((S.map sV).map pd) ((T.map sV).map pd)) = _
    rw [eqv_sV S T, Bool.eq_iff_iff]
    have e : PyData.eqv (pd (sV a)) (pd (sV b)) = decide (a = b) := by
      cases a with
      | none => cases b <;> rfl
      | some a =>
        cases b with
        | none => rfl
        | some b =>
          show (a == b) = _
          rw [Bool.eq_iff_iff]
          simp
    rw [e]
    simp
end K02

set_option Elab.async false
set_option maxRecDepth 100000
set_option maxHeartbeats 4000000
namespace K02
open PySem PySem.Spec PyProof.Rows L2
theorem erase_at : ∀ {O : List Nat} {p : Nat}, p ∈ O → O.eraseIdx (at1 O p) = O.erase p
  | [], _, h => nomatch h
  | o :: O, p, h => by
    unfold at1
    by_cases e : o = p
    · rw [if_pos e, e, List.erase_cons_head]
      rfl
    · rw [if_neg e, List.erase_cons_tail (by simpa using e), List.eraseIdx_cons_succ, erase_at ((List.mem_cons.mp h).resolve_left fun z => e z.symm)]
theorem map_nI (O : List Nat) : O.map nI = (O.map fun (i : Nat) => (i : Int)).map V.int := by
  rw [List.map_map]
  rfl
theorem map_erI {α β : Type} {f : α → β} : ∀ (l : List α) (j : Nat), (l.eraseIdx j).map f = (l.map f).eraseIdx j
  | [], _ => rfl
  | _ :: _, 0 => rfl
  | x :: l, j + 1 => congrArg (f x :: ·) (map_erI l j)
theorem fl_non : ∀ v ∈ ([] : List V), Fl v := fun _ h => nomatch h
section
variable {P : Program} {w : World} {K : PySem.W.Frag} {mg : Str → Option Value} {base : Heap} {A : Ad}
def spLUsed (K : PySem.W.Frag) : Sp := fun vs H Q _ => ∃ (sl so : Addr) (n : Nat) (s : St Str) (h : Str), vs = [.ref sl, .ref so, .str h] ∧ SqL K H sl (s.1.map sV) ∧ SqL K H so (s.2.map nI) ∧ Good n s ∧
  ∀ L s2 o2 H', Ext H H' → H L = none → H s2 = none → H o2 = none → H' L = some (.lst [.ref s2, .ref o2]) → H' s2 = some (.lst ((step s h).1.map sV)) → H' o2 = some (.lst ((step s h).2.map nI)) → Q (.ref L) H'
theorem ok_lused {f : Addr} {fd : FuncData} (F : Fun K "_law_used" "_law_used" s__law_used f fd) (T : Txt K mg A) : FnOk P w K mg base CX0 1 f fd pm__law_used (spLUsed K) := by
  refine F.ok sc__law_used (fun vs H Q E h => ?_) (fun cdv A' outer sh H vs Q E hr h => ?_)
  · obtain ⟨_, _, _, _, _, rfl, _⟩ := h
    rfl
  · obtain ⟨sl, so, n, s, h, rfl, hsl, hso, g, q⟩ := h
    refine ⟨_, pss_cons (ps_par (i := 0) (j := 1) (by rfl) sc__law_used.nd rfl rfl (by decide) rfl rfl (pa_cons (pe_callTy call_list_of (by rfl) T.n_list (by decide +kernel) (pa_cons (pv 0) pa_nil)) (pa_cons (pe_callTy call_list_of (by rfl) T.n_list (by decide +kernel) (pa_cons (pv 1) pa_nil)) pa_nil)) (by rfl))
      (Evl.pss_cut (ps_if (pt_cmpR op_in_seq (pv 2) (pv 0) (by with_unfolding_all rfl)) (pss_cons (ps_set (i := 3) sc__law_used.nd rfl (Or.inl rfl) (pe_bm PySem.F.plainAttrs_list PySem.F.slot_list_index PySem.F.type_list_index mt_index (pv 0) (pa_cons (pv 2) pa_nil)))
      (pss_one (ps_expr (pe_bm PySem.F.plainAttrs_list PySem.F.slot_list_remove PySem.F.type_list_remove mt_remove (pv 1) (pa_cons (pv 3) pa_nil))))) (pss_one (ps_if (pt_cmpR op_in_seq (pe_non) (pv 0) (by with_unfolding_all rfl)) (pss_one (ps_set (i := 3) sc__law_used.nd rfl (Or.inl rfl) (pe_bm PySem.F.plainAttrs_list PySem.F.slot_list_index PySem.F.type_list_index mt_index (pv 0) (pa_cons (pe_non) pa_nil)))) (pss_one (ps_if (pt_cmpR (op_neD hr.units) (pv 0) (pe_lst (pa_nil)) (nomark _)) (pss_one (ps_set (i := 3) sc__law_used.nd rfl (Or.inl rfl) (pe_bm PySem.F.plainAttrs_list PySem.F.slot_list_pop PySem.F.type_list_pop mt_popAt (pv 1) (pa_cons (pe_int) pa_nil)))) (pss_one (ps_ret (pe_lst (pa_cons (pv 0) (pa_cons (pv 1) pa_nil))))))))))
      (pss_cons (ps_asg (pv 2) (pg_sub (pv 0) (pv 3) set_list))
      (pss_one (ps_ret (pe_lst (pa_cons (pv 0) (pa_cons (pe_op op_cat (pv 1) (pe_lst (pa_cons (pv 3) pa_nil))) pa_nil))))))), ?_⟩
    obtain ⟨hn, ns, ok, hns⟩ := id g
    rw [← lstep_step ok h] at q
    refine ⟨_, rfl, sl, _, rfl, .inl hsl, fun a ha => ⟨_, rfl, so, _, rfl, .inl (hso.ext (Ext.upd ha)), fun b hb => ?_⟩⟩
    have hb0 := ext_none (Ext.upd ha) hb
    have hab : a ≠ b := ne_of_none upd_same hb
    have e2 : Ext H (upd (upd H a (.lst (s.1.map sV))) b (.lst (s.2.map nI))) := (Ext.upd ha).trans (Ext.upd hb)
    have hA : (upd (upd H a (.lst (s.1.map sV))) b (.lst (s.2.map nI))) a = some (.lst (s.1.map sV)) := Ext.upd hb _ _ upd_same
    have hB : (upd (upd H a (.lst (s.1.map sV))) b (.lst (s.2.map nI))) b = some (.lst (s.2.map nI)) := upd_same
    generalize upd (upd H a (.lst (s.1.map sV))) b (.lst (s.2.map nI)) = H2 at e2 hA hB ⊢
    refine ⟨_, _, rfl, ?_⟩
    refine ⟨fun σ' H' => ∃ p O', σ' = [some (.ref a), some (.ref b), some (.str h), some (nI p)] ∧ p < s.1.length ∧ lstep s h = (s.1.set p (some h), O' ++ [p]) ∧ O'.length ≤ 4 ∧ Ext H H' ∧ H' a = some (.lst (s.1.map sV)) ∧ H' b = some (.lst (O'.map nI)), ?_, ?_⟩
    · refine ⟨_, rfl, _, rfl, a, _, rfl, .inl (SqL.of hA), rfl, flat_sV, _, rfl, ?_⟩
      rw [show (if false = true then !inV (V.str h) (s.1.map sV) else inV (V.str h) (s.1.map sV)) = decide (some h ∈ s.1) from in_sV (some h) s.1]
      unfold lstep at q ⊢
      by_cases hm : some h ∈ s.1
      · rw [decide_eq_true hm]
        rw [if_pos hm] at q ⊢
        obtain ⟨a1, a2⟩ := at_sV hm
        have hmn := ok.mem.mp hm
        obtain ⟨i, hi, he⟩ := List.getElem_of_mem hmn
        have hat : at1 s.1 (some h) = i := by rw [← he]; exact ok.ats hi
        have hpO : at1 s.1 (some h) ∈ s.2 := by
          rw [hat]
          exact ok.omem.mpr hi
        obtain ⟨b1, b2⟩ := at1_mem hpO
        refine iteT ⟨_, rfl, .inl ⟨rfl, _, SqL.of hA⟩, _, rfl, a, _, .str h, _, _, rfl, rfl, SqL.of hA, rfl, flat_sV, a1, by show eqV (sV (some h)) (sV (some h)) = true; rw [eq_sV]; exact decide_eq_true rfl, a2, ?_⟩
        refine ⟨_, rfl, .inl ⟨rfl, _, SqL.of hB⟩, _, rfl, b, s.2.map (fun (i : Nat) => (i : Int)), ((at1 s.1 (some h) : Nat) : Int), at1 s.2 (at1 s.1 (some h)), rfl, rfl, by rw [hB, map_nI], by rw [List.getElem?_map, b1]; rfl, fun m hm' hz => ?_, ?_⟩
        · rw [List.getElem?_map] at hz
          obtain ⟨y, hy, hy2⟩ := Option.map_eq_some_iff.mp hz
          exact b2 m y hm' hy (by omega)
        · refine ⟨_, s.2.erase (at1 s.1 (some h)), rfl, (List.getElem?_eq_some_iff.mp (at1_mem hm).1).1, rfl, ?_, ext_mut e2 hb0, by rw [upd_ne hab]; exact hA, ?_⟩
          · have := List.length_erase_le (a := at1 s.1 (some h)) (l := s.2)
            have := ok.olen
            have := ok.le
            omega
          · rw [upd_same, ← erase_at hpO, map_nI, map_erI, map_erI, map_erI]
      · rw [decide_eq_false hm]
        rw [if_neg hm] at q ⊢
        refine iteF ⟨_, rfl, a, _, rfl, .inl (SqL.of hA), rfl, flat_sV, _, rfl, ?_⟩
        rw [show (if false = true then !inV V.non (s.1.map sV) else inV V.non (s.1.map sV)) = decide (none ∈ s.1) from in_sV none s.1]
        by_cases hz : none ∈ s.1
        · rw [decide_eq_true hz]
          rw [if_pos hz] at q ⊢
          obtain ⟨a1, a2⟩ := at_sV hz
          refine iteT ⟨_, rfl, .inl ⟨rfl, _, SqL.of hA⟩, a, _, .non, _, _, rfl, rfl, SqL.of hA, rfl, flat_sV, a1, rfl, a2, ?_⟩
          refine ⟨_, s.2, rfl, (List.getElem?_eq_some_iff.mp (at1_mem hz).1).1, rfl, ?_, e2, hA, hB⟩
          have := ok.olen
          have := ok.le
          omega
        · rw [decide_eq_false hz]
          rw [if_neg hz] at q ⊢
          refine iteF ⟨_, rfl, by decide, fun l hl => neD_lst (us := []) (SqL.of (Ext.upd hl _ _ hA)) (SqL.of upd_same) (fl_sV g) fl_non ⟨_, rfl, ?_⟩⟩
          rw [show PyData.eqvAll ((s.1.map sV).map pd) (([] : List V).map pd) = decide (s.1 = []) from eqv_sV s.1 []]
          have hfull : ns.length = n := by
            have := ok.le
            have := ok.nonemem
            by_cases hlt : ns.length < n
            · exact absurd (this.mpr hlt) hz
            · omega
          by_cases he : s.1 = []
          · rw [decide_eq_true he]
            refine iteF ⟨_, rfl, _, rfl, by show 2 ≤ sizeLine; decide, fun L hL => ?_⟩
            have hO : s.2 = [] := by
              have h1 := ok.olen
              have h2 := ok.len
              rw [he] at h2
              have h3 : 0 = n := h2
              exact List.length_eq_zero_iff.mp (by omega)
            rw [hO] at q
            have e3 := (e2.trans (Ext.upd hl)).trans (Ext.upd (o := .lst [.ref a, .ref b]) hL)
            exact q L a b _ e3 (ext_none (e2.trans (Ext.upd hl)) hL) ha hb0 upd_same (Ext.upd hL _ _ (Ext.upd hl _ _ hA)) (Ext.upd hL _ _ (Ext.upd hl _ _ hB))
          · rw [decide_eq_false he]
            cases hO : s.2 with
            | nil =>
              have h1 := ok.olen
              have h2 := ok.len
              rw [hO] at h1
              have h3 : 0 = ns.length := h1
              exact absurd (List.length_eq_zero_iff.mp (by omega)) he
            | cons p O' =>
              have hlen := ok.olen
              rw [hO] at hlen hB
              have hB3 := Ext.upd (o := .lst []) hl _ _ hB
              refine iteT ⟨_, rfl, .inl ⟨rfl, _, SqL.of hB3⟩, b, _, 0, 0, nI p, rfl, rfl, hB3, by decide, by decide, (ixN_seq (Evl.ixN_nat (j := 0) (by show 0 < (List.map nI (p :: O')).length; rw [List.length_map]; exact Nat.succ_pos _))).1, rfl, ?_⟩
              have hp : p < ns.length := ok.omem.mp (by rw [hO]; exact List.mem_cons_self)
              refine ⟨p, O', rfl, by rw [ok.len]; omega, rfl, ?_, ext_mut (e2.trans (Ext.upd hl)) hb0, by rw [upd_ne hab]; exact Ext.upd hl _ _ hA, upd_same⟩
              have : O'.length + 1 = ns.length := hlen
              omega
    · rintro σ' H' ⟨p, O', rfl, hp, hst, hl4, e3, hA3, hB3⟩
      rw [hst] at q
      refine ⟨_, rfl, _, rfl, _, rfl, a, _, (p : Int), p, rfl, rfl, hA3, Evl.ixN_nat (by rw [List.length_map]; exact hp), ?_⟩
      have e4 : Ext H (upd H' a (.lst ((s.1.map sV).set p (.str h)))) := ext_mut e3 ha
      have hA4 : (upd H' a (.lst ((s.1.map sV).set p (.str h)))) a = some (.lst ((s.1.set p (some h)).map sV)) := by
        rw [upd_same, List.map_set]
        rfl
      have hB4 : (upd H' a (.lst ((s.1.map sV).set p (.str h)))) b = some (.lst (O'.map nI)) := by
        rw [upd_ne hab.symm]
        exact hB3
      generalize upd H' a (.lst ((s.1.map sV).set p (.str h))) = H4 at e4 hA4 hB4 ⊢
      refine ⟨_, rfl, _, rfl, _, rfl, by show 1 ≤ sizeLine; decide, fun D hD => ⟨b, D, _, _, rfl, rfl, Ext.upd hD _ _ hB4, upd_same, ?_, fun D2 hD2 => ⟨by show 2 ≤ sizeLine; decide, fun L hL => ?_⟩⟩⟩
      · rw [List.length_map]
        exact Nat.le_of_lt (small_sz (by show _ + 1 ≤ 2000; omega))
      · have e5 := (e4.trans (Ext.upd hD)).trans (Ext.upd (o := .lst (O'.map nI ++ [nI p])) hD2)
        refine q L a D2 _ (e5.trans (Ext.upd hL)) (ext_none e5 hL) ha (ext_none (e4.trans (Ext.upd hD)) hD2) upd_same ?_ ?_
        · exact (((Ext.upd hD).trans (Ext.upd hD2)).trans (Ext.upd hL)) _ _ hA4
        · rw [List.map_append]
          exact Ext.upd hL _ _ upd_same
end
end K02

set_option Elab.async false
set_option maxRecDepth 100000
set_option maxHeartbeats 4000000
namespace K02
open PySem PySem.Spec PyProof.Rows L2
section
variable {P : Program} {w : World} {K : PySem.W.Frag} {mg : Str → Option Value} {base : Heap} {A : Ad}
def spLetterDraw (K : PySem.W.Frag) : Sp := fun vs H Q _ => ∃ (st : Addr), vs = [.ref st] ∧ PoolD H st ∧ ∀ t (hs : List Str) (b : Int) H', Dp K H' (.ref t) (.tuple [.tuple (hs.map PyData.str), .int b]) → (∀ h ∈ hs, nameS h = true) → hs.length ≤ 4 → 0 ≤ b → b ≤ 60 → PoolD H' st → ExtM st H H' → Q (.ref t) H'
end
end K02

set_option Elab.async false
set_option maxRecDepth 100000
set_option maxHeartbeats 4000000
namespace K02
open PySem PySem.Spec PyProof.Rows L2
theorem dps_app {K : PySem.W.Frag} {H : Hp} : ∀ {xs ys : List V} {ds es : List PyData}, DpAll K H xs ds → DpAll K H ys es → DpAll K H (xs ++ ys) (ds ++ es)
  | _, _, _, _, .nil, h => h
  | _, _, _, _, .cons a b, h => .cons a (dps_app b h)
/-- rows in a list: each a list or a tuple of letters -/
def RowsIn (K : PySem.W.Frag) (H : Hp) (xs : List V) (L : List (List PyData)) : Prop := xs.length = L.length ∧ ∀ (i : Nat) (r : List PyData), L[i]? = some r → ∃ a ys, xs[i]? = some (.ref a) ∧ (SqL K H a ys ∨ SqT K H a ys) ∧ DpAll K H ys r
section
variable {P : Program} {w : World} {K : PySem.W.Frag} {mg : Str → Option Value} {base : Heap} {A : Ad}
def spJoined (K : PySem.W.Frag) : Sp := fun vs H Q _ => ∃ (a : Addr) (xs : List V) (L : List (List PyData)), vs = [.ref a] ∧ SqL K H a xs ∧ RowsIn K H xs L ∧ L.flatten.length ≤ 1000 ∧ ∀ l zs H', Ext H H' → H l = none → H' l = some (.lst zs) → DpAll K H' zs L.flatten → Q (.ref l) H'
theorem ok_joined {f : Addr} {fd : FuncData} (F : Fun K "_law_joined" "_law_joined" s__law_joined f fd) (T : Txt K mg A) : FnOk P w K mg base CX0 1 f fd pm__law_joined (spJoined K) := by
  refine F.ok sc__law_joined (fun vs H Q E h => ?_) (fun cdv A' outer sh H vs Q E hr h => ?_)
  · obtain ⟨_, _, _, rfl, _⟩ := h
    rfl
  · obtain ⟨a, xs, L, rfl, hx, ⟨hxl, hrow⟩, hfl, q⟩ := h
    refine ⟨_, pss_cons (ps_set (i := 1) sc__law_joined.nd rfl (Or.inl rfl) (pe_lst (pa_nil)))
      (pss_cons (ps_for PassesOwn.never rfl (pi_sq (pv 0)) (pg_name (i := 2) sc__law_joined.nd rfl (Or.inl rfl)) (pss_one (ps_set (i := 1) sc__law_joined.nd rfl (Or.inl rfl) (pe_op op_cat (pv 1) (pe_callTy call_list_of (by rfl) T.n_list (by decide +kernel) (pa_cons (pv 2) pa_nil))))))
      (pss_one (ps_ret (pv 1)))), ?_⟩
    refine ⟨by show 0 ≤ sizeLine; decide, fun l0 hl0 => ⟨_, rfl, a, rfl, .inl ⟨⟨xs, hx.ext (Ext.upd hl0)⟩, ?_⟩⟩⟩
    refine for_list (xs := xs) (fun i σ' J => ∃ l zs o2, σ' = [some (.ref a), some (.ref l), o2] ∧ Ext H J ∧ H l = none ∧ J l = some (.lst zs) ∧ DpAll K J zs (L.take i).flatten) ⟨l0, [], _, rfl, Ext.upd hl0, hl0, upd_same, .nil⟩ (fun i σ' J _ pv => by obtain ⟨_, _, _, _, e, _⟩ := pv; exact hx.ext e) (fun i x σ' J hi pv => ?_) (fun σ' J pv => ?_)
    · obtain ⟨l, zs, o2, rfl, e, hln, hl, hz⟩ := pv
      have hil := (List.getElem?_eq_some_iff.mp hi).1
      obtain ⟨b, ys, hb, hs, hy⟩ := hrow i L[i] (List.getElem?_eq_getElem (by omega))
      rw [hi] at hb
      cases hb
      have hs2 : SqL K J b ys ∨ SqT K J b ys := by
        rcases hs with h | h
        · exact .inl (h.ext e)
        · exact .inr (h.ext e)
      refine ⟨_, rfl, _, rfl, b, ys, rfl, hs2, fun l2 hl2 => ?_⟩
      have e2 := Ext.upd (o := .lst ys) hl2
      have htk : (L.take (i + 1)).flatten = (L.take i).flatten ++ L[i]'(by omega) := by
        rw [L2.take_snoc (List.getElem?_eq_getElem (show i < L.length by omega)), List.flatten_append]
        show _ ++ (L[i] ++ []) = _
        rw [List.append_nil]
      refine ⟨l, l2, zs, ys, rfl, rfl, e2 _ _ hl, upd_same, ?_, fun l3 hl3 => ?_⟩
      · have h1 := dps_len hz
        have h2 := dps_len hy
        have h3 : L.flatten.length = (L.take (i + 1)).flatten.length + (L.drop (i + 1)).flatten.length := by rw [← List.length_append, ← List.flatten_append, List.take_append_drop]
        rw [htk, List.length_append] at h3
        exact Nat.le_of_lt (small_sz (by omega))
      · have e3 := Ext.upd (o := .lst (zs ++ ys)) hl3
        refine ⟨l3, zs ++ ys, _, rfl, (e.trans e2).trans e3, ext_none (e.trans e2) hl3, upd_same, ?_⟩
        rw [htk]
        exact dps_app (dps_ext (e2.trans e3) _ _ hz) (dps_ext ((e.trans e2).trans e3) _ _ hy)
    · obtain ⟨l, zs, o2, rfl, e, hln, hl, hz⟩ := pv
      rw [List.take_of_length_le (by omega)] at hz
      exact ⟨_, rfl, q l zs J e hln hl hz⟩
end
end K02

set_option Elab.async false
set_option maxRecDepth 100000
set_option maxHeartbeats 4000000
namespace K02
open PySem PySem.Spec PyProof.Rows L2
theorem near_run {n : Nat} {us : List Str} {i : Nat} {u : Str} (h : us[i]? = some u) : decide (some u ∈ (run n (us.take i)).1) = isNear (distI us i) n := by
  rw [short_dist]
  unfold distI
  rw [h]
  show _ = isNear (dist (us.take i) u) n
  cases dist (us.take i) u <;> rfl
theorem emp_rep {n : Nat} : (List.replicate (n : Int).toNat [V.non]).flatten = ((emp n : St Str).1).map sV := by
  rw [Int.toNat_natCast]
  show _ = (List.replicate n (none : Option Str)).map sV
  rw [List.map_replicate]
  induction n with
  | zero => rfl
  | succ n ih => rw [List.replicate_succ, List.flatten_cons, ih]; rfl
/-! the dict of unlike heads -/
def kvs0 (l : List Str) : List (Key × V) := l.map fun u => (.inr u, .int 0)
theorem put0 (S : List Str) (u : Str) : putK (kvs0 S) (.inr u) (.int 0) = kvs0 (ins S u) := by
  unfold putK ins
  by_cases h : u ∈ S
  · rw [if_pos h, if_pos (by
      rw [List.any_eq_true]
      exact ⟨(.inr u, .int 0), List.mem_map.mpr ⟨u, h, rfl⟩, decide_eq_true rfl⟩)]
    unfold kvs0
    rw [List.map_map]
    refine List.map_congr_left fun x _ => ?_
    show (if (Sum.inr x : Key) = .inr u then _ else _) = _
    split <;> rfl
  · rw [if_neg h, if_neg (by
      rw [List.any_eq_true]
      rintro ⟨p, hp, e⟩
      obtain ⟨x, hx, rfl⟩ := List.mem_map.mp hp
      have := of_decide_eq_true e
      injection this with this
      exact h (this ▸ hx))]
    unfold kvs0
    rw [List.map_append]; rfl
theorem merge0 : ∀ (l S : List Str), mergeK (kvs0 S) (kvs0 l) = kvs0 (l.foldl ins S)
  | [], _ => rfl
  | u :: l, S => by
    show mergeK (putK (kvs0 S) (.inr u) (.int 0)) (kvs0 l) = _
    rw [put0, merge0 l]; rfl
theorem card_small (l : List Str) : card l ≤ l.length := by
  have : ∀ (l S : List Str), (l.foldl ins S).length ≤ S.length + l.length := fun l => by
    induction l with
    | nil => exact fun _ => Nat.le_refl _
    | cons x l ih =>
      intro S
      have := ih (ins S x)
      have h2 : (ins S x).length ≤ S.length + 1 := by
        unfold ins
        split
        · omega
        · rw [List.length_append]; exact Nat.le_refl _
      rw [List.length_cons]
      show (l.foldl ins (ins S x)).length ≤ _
      omega
  have := this l []
  rw [List.length_nil, Nat.zero_add] at this
  exact this
/-- the places of u ahead of i -/
def aheads (us : List Str) (i : Nat) (u : Str) : List Nat := (List.range i).filter fun j => decide (us[j]? = some u)
theorem aheads_last {us : List Str} {i : Nat} {u : Str} {as : List Nat} {j : Nat} (h : aheads us i u = as ++ [j]) : j < i ∧ us[j]? = some u ∧ ∀ k, j < k → k < i → us[k]? ≠ some u := by
  have hj : j ∈ aheads us i u := by rw [h]; exact List.mem_append_right _ List.mem_cons_self
  unfold aheads at hj h
  rw [List.mem_filter, List.mem_range, decide_eq_true_eq] at hj
  refine ⟨hj.1, hj.2, fun k hk hki hu => ?_⟩
  have hs : ((List.range i).filter fun j => decide (us[j]? = some u)).Pairwise (· < ·) := (List.pairwise_lt_range).filter _
  rw [h, List.pairwise_append] at hs
  have hk2 : k ∈ (List.range i).filter fun j => decide (us[j]? = some u) := by
    rw [List.mem_filter, List.mem_range, decide_eq_true_eq]
    exact ⟨hki, hu⟩
  rw [h] at hk2
  rcases List.mem_append.mp hk2 with z | z
  · have := hs.2.2 k z j List.mem_cons_self
    omega
  · rw [List.mem_singleton.mp z] at hk
    omega
theorem dist_aheads {us : List Str} {i : Nat} {u : Str} {as : List Nat} {j : Nat} (h : aheads us i u = as ++ [j]) : dist (us.take i) u = some (card ((us.drop (j + 1)).take (i - (j + 1)))) := by
  obtain ⟨h1, h2, h3⟩ := aheads_last h
  have : (us.drop (j + 1)).take (i - (j + 1)) = (us.take i).drop (j + 1) := List.drop_take.symm
  rw [this]
  refine dist_at ?_ fun k hk => ?_
  · rw [List.getElem?_take, if_pos h1]; exact h2
  · rw [List.getElem?_take]
    by_cases hki : k < i
    · rw [if_pos hki]; exact h3 k hk hki
    · rw [if_neg hki]; exact fun z => nomatch z
theorem dist_aheads0 {us : List Str} {i : Nat} {u : Str} (h : aheads us i u = []) : dist (us.take i) u = none := by
  refine dist_no fun z => ?_
  obtain ⟨k, hk⟩ := List.getElem?_of_mem z
  rw [List.getElem?_take] at hk
  by_cases hki : k < i
  · rw [if_pos hki] at hk
    have : k ∈ aheads us i u := by
      unfold aheads
      rw [List.mem_filter, List.mem_range, decide_eq_true_eq]
      exact ⟨hki, hk⟩
    rw [h] at this
    cases this
  · rw [if_neg hki] at hk
    cases hk
section
variable {P : Program} {w : World} {K : PySem.W.Frag} {mg : Str → Option Value} {base : Heap} {A : Ad}
def spLShorts (K : PySem.W.Frag) : Sp := fun vs H Q _ => ∃ (a : Addr) (us : List Str) (n : Nat), vs = [.ref a, .int (n : Int)] ∧ SqL K H a (us.map V.str) ∧ (∀ u ∈ us, nameS u = true) ∧ n ≤ 4 ∧ us.length ≤ 300 ∧ ∀ D H', Ext H H' → H D = none → H' D = some (.lst ((shB n us).map V.bl)) → Q (.ref D) H'
theorem ok_lshorts {f : Addr} {fd : FuncData} (F : Fun K "_law_shorts" "_law_shorts" s__law_shorts f fd) (T : Txt K mg A) (O__law_used : Own P w K mg base CX0 "_law_used" 1 pm__law_used (spLUsed K)) : FnOk P w K mg base CX0 2 f fd pm__law_shorts (spLShorts K) := by
  refine F.ok sc__law_shorts (fun vs H Q E h => ?_) (fun cdv A' outer sh H vs Q E hr h => ?_)
  · obtain ⟨_, _, _, rfl, _⟩ := h
    rfl
  · obtain ⟨a, us, n, rfl, ha, hn, hn4, h300, q⟩ := h
    refine ⟨_, pss_cons (ps_par3 (i := 2) (j := 3) (l := 4) (by rfl) sc__law_shorts.nd rfl rfl rfl (by decide) (by decide) (by decide) rfl rfl rfl (pa_cons (pe_op op_rep (pe_lst (pa_cons (pe_non) pa_nil)) (pv 1)) (pa_cons (pe_lst (pa_nil)) (pa_cons (pe_lst (pa_nil)) pa_nil))) (by rfl))
      (pss_cons (ps_for PassesOwn.never rfl (pi_sq (pv 0)) (pg_name (i := 5) sc__law_shorts.nd rfl (Or.inl rfl)) (pss_cons (ps_expr (pe_bm PySem.F.plainAttrs_list PySem.F.slot_list_append PySem.F.type_list_append mt_append (pv 4) (pa_cons (pe_cmpR op_in_seq (pv 5) (pv 2) (by with_unfolding_all rfl)) pa_nil)))
      (pss_one (ps_asg (pe_own O__law_used (hr.mono (by decide)) pass0 (pa_cons (pv 2) (pa_cons (pv 3) (pa_cons (pv 5) pa_nil)))) (pg_unl rfl (pgs_cons (pg_name (i := 2) sc__law_shorts.nd rfl (Or.inl rfl)) (pgs_cons (pg_name (i := 3) sc__law_shorts.nd rfl (Or.inl rfl)) (pgs_nil))))))))
      (pss_one (ps_ret (pv 4)))), ?_⟩
    refine ⟨by decide, fun l hl => ⟨_, rfl, l, (n : Int), [.non], rfl, rfl, upd_same, by omega, by omega, Nat.le_trans (show ([V.non] : List V).length * (n : Int).toNat ≤ 4 by show 1 * (n : Int).toNat ≤ 4; omega) (by decide), fun s0 hs0 => ?_⟩⟩
    have e1 : Ext H (upd (upd H l (.lst [.non])) s0 (.lst (List.replicate (n : Int).toNat [V.non]).flatten)) := (Ext.upd hl).trans (Ext.upd hs0)
    have m1 : (upd (upd H l (.lst [.non])) s0 (.lst (List.replicate (n : Int).toNat [V.non]).flatten)) s0 = some (.lst (((emp n : St Str).1).map sV)) := by rw [upd_same, emp_rep]
    have hs0n := ext_none (Ext.upd hl) hs0
    generalize upd (upd H l (.lst [.non])) s0 (.lst (List.replicate (n : Int).toNat [V.non]).flatten) = J1 at e1 m1 ⊢
    refine ⟨by decide, fun o0 h_o0 => ?_⟩
    have e_o0 := Ext.upd (o := .lst []) h_o0
    have m_o0 : upd J1 o0 (.lst []) o0 = some (.lst []) := upd_same
    generalize upd J1 o0 (.lst []) = J2 at e_o0 m_o0 ⊢
    refine ⟨by decide, fun D h_D => ?_⟩
    have e_D := Ext.upd (o := .lst []) h_D
    have m_D : upd J2 D (.lst []) D = some (.lst []) := upd_same
    generalize upd J2 D (.lst []) = J3 at e_D m_D ⊢
    have eD := (e1.trans e_o0).trans e_D
    have hDn : H D = none := ext_none (e1.trans e_o0) h_D
    refine ⟨_, _, _, rfl, _, rfl, a, rfl, ?_⟩
    refine for_sqM (H0 := H) (xs := us.map V.str) (.inl ha) (fun i σ' H' => Ext H H' ∧ ∃ s2 o2 o5, σ' = [some (.ref a), some (.int (n : Int)), some (.ref s2), some (.ref o2), some (.ref D), o5] ∧ s2 ≠ D ∧ o2 ≠ D ∧ H s2 = none ∧ H o2 = none ∧ H' s2 = some (.lst ((run n (us.take i)).1.map sV)) ∧ H' o2 = some (.lst ((run n (us.take i)).2.map nI)) ∧ H' D = some (.lst (((List.range i).map fun j => isNear (distI us j) n).map V.bl)))
      ⟨eD, s0, o0, _, rfl, ne_of_none ((e_o0 _ _ m1)) h_D, ne_of_none m_o0 h_D, hs0n, ext_none e1 h_o0, (e_o0.trans e_D) _ _ m1, e_D _ _ m_o0, m_D⟩ (fun i σ' H' pv => pv.1) (fun i x σ' H' hi pv => ?_) (fun σ' H' pv => ?_)
    · obtain ⟨e, s2, o2, o5, rfl, ns, no, n2, m2, hS, hO, hD⟩ := pv
      rw [List.getElem?_map] at hi
      obtain ⟨u, hu, rfl⟩ := Option.map_eq_some_iff.mp hi
      have hil := (List.getElem?_eq_some_iff.mp hu).1
      have g := good_run hn4 (us := us.take i) fun x hx => hn x (List.mem_of_mem_take hx)
      refine ⟨_, rfl, .inl ⟨rfl, _, SqL.of hD⟩, _, rfl, _, rfl, s2, _, rfl, .inl (SqL.of hS), rfl, flat_sV, D, _, _, rfl, rfl, hD, small_sz (by rw [List.length_map, List.length_map, List.length_range]; omega), ?_⟩
      have hin : (if false = true then !inV (V.str u) ((run n (us.take i)).1.map sV) else inV (V.str u) ((run n (us.take i)).1.map sV)) = isNear (distI us i) n := by
        rw [← near_run hu]
        exact in_sV (some u) _
      rw [run_snoc hu]
      have eG := ext_mut (o := .lst (((List.range i).map fun j => isNear (distI us j) n).map V.bl ++ [V.bl (isNear (distI us i) n)])) e hDn
      refine ⟨_, rfl, _, rfl, _, rfl, s2, o2, n, run n (us.take i), u, rfl, SqL.of (by rw [upd_ne ns]; exact hS), SqL.of (by rw [upd_ne no]; exact hO), g, fun L t2 p2 H2 e2 _ ht hp hL hS2 hO2 => ?_⟩
      rw [hin] at e2 ht hp
      have hD2 : H2 D = some (.lst (((List.range i).map fun j => isNear (distI us j) n).map V.bl ++ [V.bl (isNear (distI us i) n)])) := e2 _ _ upd_same
      refine ⟨L, _, rfl, SqL.of hL, rfl, _, _, rfl, _, _, rfl, rfl, eG.trans e2, t2, p2, _, rfl, (ne_of_none upd_same ht).symm, (ne_of_none upd_same hp).symm, ext_none eG ht, ext_none eG hp, hS2, hO2, ?_⟩
      rw [hD2, List.range_succ, List.map_append, List.map_append]; rfl
    · obtain ⟨e, s2, o2, o5, rfl, _, _, _, _, _, _, hD⟩ := pv
      rw [List.length_map] at hD
      exact ⟨_, rfl, q D H' e hDn hD⟩
end
end K02

set_option Elab.async false
set_option maxRecDepth 100000
set_option maxHeartbeats 4000000
namespace K02
open PySem PySem.Spec PyProof.Rows L2
theorem fl_nats {as : List Nat} : ∀ v ∈ as.map nI, Fl v := fun v hv => by
  obtain ⟨i, _, rfl⟩ := List.mem_map.mp hv
  trivial
theorem eqv_nil (as : List Nat) : PyData.eqvAll ((as.map nI).map pd) (([] : List V).map pd) = decide (as = []) := by
  cases as with
  | nil => rfl
  | cons a as => exact (decide_eq_false (List.cons_ne_nil _ _)).symm
theorem paired_mono {α β : Type} {F G : α → β → Prop} (h : ∀ a b, F a b → G a b) : ∀ {l : List α} {m : List β}, Paired F l m → Paired G l m
  | _, _, .nil => .nil
  | _, _, .cons a b => .cons (h _ _ a) (paired_mono h b)
section
variable {P : Program} {w : World} {K : PySem.W.Frag} {mg : Str → Option Value} {base : Heap} {A : Ad}
def spLDists (K : PySem.W.Frag) : Sp := fun vs H Q _ => ∃ (a : Addr) (us : List Str), vs = [.ref a] ∧ SqL K H a (us.map V.str) ∧ us.length ≤ 300 ∧ ∀ D H', Ext H H' → H D = none → H' D = some (.lst (dsV us)) → Q (.ref D) H'
theorem ok_ldists {f : Addr} {fd : FuncData} (F : Fun K "_law_distances" "_law_distances" s__law_distances f fd) (T : Txt K mg A) : FnOk P w K mg base CX0 1 f fd pm__law_distances (spLDists K) := by
  refine F.ok sc__law_distances (fun vs H Q E h => ?_) (fun cdv A' outer sh H vs Q E hr h => ?_)
  · obtain ⟨_, _, rfl, _⟩ := h
    rfl
  · obtain ⟨a, us, rfl, ha, h300, q⟩ := h
    refine ⟨_, pss_cons (ps_set (i := 1) sc__law_distances.nd rfl (Or.inl rfl) (pe_lst (pa_nil)))
      (pss_cons (ps_for PassesOwn.never rfl (pi_enSq rfl T.n_enumerate (pa_cons (pv 0) pa_nil)) (pg_tup rfl (pgs_cons (pg_name (i := 2) sc__law_distances.nd rfl (Or.inl rfl)) (pgs_cons (pg_name (i := 3) sc__law_distances.nd rfl (Or.inr rfl)) (pgs_nil)))) (pss_cons (ps_setLc (i := 4) (own := [("_law_index", 6)]) (g := gName 6) (by rfl) sc__law_distances.nd rfl rfl (sw_true rfl rfl rfl (by decide +kernel)) (pi_range1 rfl T.n_range (pa_cons (pv 2) pa_nil)) (blkOk_by (own := [("_law_index", 6)]) (N := nm__law_distances) (sc := defScope s__law_distances) (by decide +kernel)) (fun _ _ _ _ _ => pg_name (i := 6) sc__law_distances.nd rfl (Or.inl rfl)) (fun s1 H1 C1 cl fp => pts_one (pt_cmpR op_eq (pe_ix (ix_listK (K := K) rfl) (pv 0) (pv 6) (fun _ _ => rfl)) (pv 3) (nomark _))) (fun s1 H1 C1 cl fp => pv 6))
      (pss_cons (ps_set (i := 5) sc__law_distances.nd rfl (Or.inl rfl) (pe_ifExp (pt_cmpR (op_neD hr.units) (pv 4) (pe_lst (pa_nil)) (nomark _)) (pe_callTy (call_dictP rfl) (by rfl) T.n_dict (by decide +kernel) (pa_cons (pe_lc (own := [("_law_one", 7)]) (g := gName 7) (by rfl) sc__law_distances.nd (pi_list (pe_slice sl_list (pv 0) (po_some (pe_op op_add (pe_ix ix_list (pv 4) (pe_un un_neg (pe_int)) (fun _ _ => rfl)) (pe_int))) (po_some (pv 2)))) (blkOk_by (own := [("_law_one", 7)]) (N := nm__law_distances) (sc := defScope s__law_distances) (by decide +kernel)) (fun _ _ _ _ _ => pg_name (i := 7) sc__law_distances.nd rfl (Or.inl rfl)) (fun s1 H1 C1 cl fp => pts_nil) (fun s1 H1 C1 cl fp => pe_tup (pa_cons (pv 7) (pa_cons (pe_int) pa_nil)))) pa_nil)) (pe_dnewK)))
      (pss_one (ps_expr (pe_bm PySem.F.plainAttrs_list PySem.F.slot_list_append PySem.F.type_list_append mt_append (pv 1) (pa_cons (pe_ifExp (pt_cmpR (op_neD hr.units) (pv 4) (pe_lst (pa_nil)) (nomark _)) (pe_callB call_lenD (by rfl) T.n_len (by decide +kernel) (pa_cons (pv 5) pa_nil)) (pe_non)) pa_nil)))))))
      (pss_one (ps_ret (pv 1)))), ?_⟩
    refine ⟨by decide, fun D h_D => ⟨_, rfl, a, rfl, ?_⟩⟩
    have e_D := Ext.upd (o := .lst []) h_D
    have m_D : upd H D (.lst []) D = some (.lst []) := upd_same
    generalize upd H D (.lst []) = J at e_D m_D ⊢
    have hDn : H D = none := h_D
    refine for_enSqM (H0 := H) (xs := us.map V.str) (.inl ha) (fun i σ' H' => Ext H H' ∧ (∃ o2 o3 o4 o5, σ' = [some (.ref a), some (.ref D), o2, o3, o4, o5, none, none]) ∧ H' D = some (.lst ((List.range i).map fun j => oV (distI us j)))) ⟨e_D, ⟨_, _, _, _, rfl⟩, m_D⟩ (fun i σ' H' pv => pv.1) (fun i x σ' H' T' hi pv hT => ?_) (fun σ' H' pv => ?_)
    · obtain ⟨e, ⟨o2, o3, o4, o5, rfl⟩, hD⟩ := pv
      rw [List.getElem?_map] at hi
      obtain ⟨u, hu, rfl⟩ := Option.map_eq_some_iff.mp hi
      have hil := (List.getElem?_eq_some_iff.mp hu).1
      have hdi : distI us i = dist (us.take i) u := by unfold distI; rw [hu]
      refine ⟨T', _, rfl, SqT.of upd_same, rfl, _, _, rfl, _, _, rfl, rfl, ?_⟩
      have eT := Ext.upd (o := .tup [V.int (i : Nat), .str u]) hT
      generalize upd H' T' (.tup [V.int (i : Nat), .str u]) = J1 at eT ⊢
      have e1 := e.trans eT
      have hD1 := eT _ _ hD
      refine ⟨_, rfl, _, rfl, by omega, by omega, ?_⟩
      refine lc_rgR (n := i) (b := fun j => decide (us[j]? = some u)) (f := nI) (small_sz (by omega)) (fun x => rfl) (fun j hj H2 e2 Q' q' => ?_) (fun j hj _ H2 e2 Q' q' => ⟨_, by rw [Int.zero_add]; rfl, q' _ Ext.rfl'⟩) (fun A1 H2 hA1 e2 hl2 => ?_)
      · have huj : us[j]? = some us[j] := List.getElem?_eq_getElem (by omega)
        have hg : (us.map V.str)[j]? = some (.str us[j]) := by rw [List.getElem?_map, huj]; rfl
        refine ⟨_, rfl, _, rfl, a, _, (j : Int), .str us[j], rfl, by rw [Int.zero_add], ha.ext (e1.trans e2), atI_nat hg, _, rfl, rfl, _, rfl, ?_⟩
        have := q' H2 Ext.rfl'
        rw [huj] at this
        rw [dvs, show decide (us[j] = u) = decide (some us[j] = some u) from by rw [Bool.eq_iff_iff, decide_eq_true_eq, decide_eq_true_eq]; exact ⟨fun z => by rw [z], fun z => Option.some.inj z⟩]
        exact this
      · have hl2 : H2 A1 = some (.lst ((aheads us i u).map nI)) := hl2
        have e02 := e1.trans e2
        have hD2 := e2 _ _ hD1
        have hval : ∀ {o : Option Nat} {G : Hp}, dist (us.take i) u = o → Ext H2 G → Ext H (upd G D (.lst (((List.range i).map fun j => oV (distI us j)) ++ [oV o]))) ∧ upd G D (.lst (((List.range i).map fun j => oV (distI us j)) ++ [oV o])) D = some (.lst ((List.range (i + 1)).map fun j => oV (distI us j))) := fun {o G} ho eG => by
          refine ⟨ext_mut (e02.trans eG) hDn, ?_⟩
          rw [upd_same, List.range_succ, List.map_append, ← ho, ← hdi]; rfl
        refine ⟨_, rfl, by decide, fun l3 h_l3 => ?_⟩
        have e_l3 := Ext.upd (o := .lst []) h_l3
        have m_l3 : upd H2 l3 (.lst []) l3 = some (.lst []) := upd_same
        generalize upd H2 l3 (.lst []) = H3 at e_l3 m_l3 ⊢
        refine neD_lst (us := []) (SqL.of (e_l3 _ _ hl2)) (SqL.of m_l3) fl_nats (fun _ h => nomatch h) ⟨_, rfl, ?_⟩
        rw [eqv_nil]
        rcases List.eq_nil_or_concat (aheads us i u) with h0 | ⟨as, j, h0⟩
        · rw [h0, decide_eq_true rfl]
          refine iteF fun dd h_dd => ?_
          have e_dd := Ext.upd (o := .dK []) h_dd
          have m_dd : upd H3 dd (.dK []) dd = some (.dK []) := upd_same
          generalize upd H3 dd (.dK []) = H4 at e_dd m_dd ⊢
          refine ⟨_, rfl, .inl ⟨rfl, _, SqL.of ((e_l3.trans e_dd) _ _ hD2)⟩, _, rfl, by decide, fun l5 h_l5 => ?_⟩
          have e_l5 := Ext.upd (o := .lst []) h_l5
          have m_l5 : upd H4 l5 (.lst []) l5 = some (.lst []) := upd_same
          generalize upd H4 l5 (.lst []) = H5 at e_l5 m_l5 ⊢
          have f5 := (e_l3.trans e_dd).trans e_l5
          refine neD_lst (us := []) (SqL.of (f5 _ _ hl2)) (SqL.of m_l5) fl_nats (fun _ h => nomatch h) ⟨_, rfl, ?_⟩
          rw [eqv_nil, h0, decide_eq_true rfl]
          obtain ⟨g1, g2⟩ := hval (dist_aheads0 h0) f5
          exact iteF ⟨D, _, _, rfl, rfl, f5 _ _ hD2, small_sz (by rw [List.length_map, List.length_range]; omega), g1, ⟨_, _, _, _, rfl⟩, g2⟩
        · rw [List.concat_eq_append] at h0
          have hne : aheads us i u ≠ [] := by rw [h0]; simp
          obtain ⟨hji, hju, _⟩ := aheads_last h0
          rw [decide_eq_false hne]
          have hA3 := e_l3 _ _ hl2
          refine iteT ⟨_, rfl, _, rfl, _, rfl, A1, _, (-1 : Int), nI j, rfl, rfl, SqL.of hA3, by rw [h0, List.map_append]; exact L2.atI_last _ _, _, _, rfl, rfl, _, rfl, _, rfl, _, rfl, a, _, rfl, ha.ext (e02.trans e_l3), fun p h_p => ?_⟩
          generalize hsl : (us.drop (j + 1)).take (i - (j + 1)) = sl
          have hcut : cutV (us.map V.str) (some ((j : Int) + 1)) (some (i : Int)) = sl.map V.str := by
            rw [show (j : Int) + 1 = ((j + 1 : Nat) : Int) from rfl, cut_at (by omega), ← hsl, List.map_take, List.map_drop]
          have hsll : sl.length ≤ 300 := by rw [← hsl, List.length_take, List.length_drop]; omega
          have e_p := Ext.upd (o := .lst (cutV (us.map V.str) (some ((j : Int) + 1)) (some (i : Int)))) h_p
          have m_p : upd H3 p (.lst (cutV (us.map V.str) (some ((j : Int) + 1)) (some (i : Int)))) p = some (.lst (cutV (us.map V.str) (some ((j : Int) + 1)) (some (i : Int)))) := upd_same
          generalize upd H3 p (.lst (cutV (us.map V.str) (some ((j : Int) + 1)) (some (i : Int)))) = H4 at e_p m_p ⊢
          rw [hcut] at m_p
          refine ⟨p, rfl, ⟨_, SqL.of m_p⟩, fun D3 hD3 => ?_⟩
          refine lc_list (xs := sl.map V.str) (fun k J => ∃ ps : List Addr, Ext H4 J ∧ J D3 = some (.lst (ps.map V.ref)) ∧ ps.length = k ∧ Paired (fun p kv => SqT K J p [kV kv.1, kv.2]) ps (kvs0 (sl.take k))) ⟨[], Ext.upd hD3, upd_same, rfl, .nil⟩ (fun k J _ pv => by obtain ⟨_, e, _⟩ := pv; exact SqL.of (e _ _ m_p)) (fun k x J hxk pv => ?_) (fun J pv => ?_)
          · obtain ⟨ps, eJ, hDJ, hpl, hpr⟩ := pv
            rw [List.getElem?_map] at hxk
            obtain ⟨z, hz, rfl⟩ := Option.map_eq_some_iff.mp hxk
            have hkl := (List.getElem?_eq_some_iff.mp hz).1
            refine ⟨rfl, _, rfl, by show 2 ≤ sizeLine; decide, fun t h_t => ?_⟩
            have e_t := Ext.upd (o := .tup [V.str z, .int 0]) h_t
            have hDt := e_t _ _ hDJ
            refine ⟨_, hDt, small_sz (by rw [List.length_map]; omega), ps ++ [t], ext_mut (eJ.trans e_t) hD3, by rw [upd_same, List.map_append]; rfl, by rw [List.length_append, hpl]; rfl, ?_⟩
            rw [L2.take_snoc hz]
            unfold kvs0
            rw [List.map_append]
            have tk : ∀ b us, SqT K (upd J t (.tup [V.str z, .int 0])) b us → SqT K (upd (upd J t (.tup [V.str z, .int 0])) D3 (.lst (ps.map V.ref ++ [V.ref t]))) b us := fun b us h => sqT_mutL hDt (fun x o hx ho => by rw [upd_ne hx]; exact ho) h
            exact Paired.snoc (paired_mono (fun b kv h => tk _ _ (h.ext e_t)) hpr) (tk _ _ (SqT.of upd_same))
          · obtain ⟨ps, eJ, hDJ, hpl, hpr⟩ := pv
            rw [List.length_map, List.take_of_length_le (Nat.le_refl _)] at hpr
            refine ⟨D3, ps, kvs0 sl, rfl, SqL.of hDJ, hpr, fun p4 h_p4 => ?_⟩
            have hmg : mergeK [] (kvs0 sl) = kvs0 (sl.foldl ins []) := merge0 sl []
            have e_p4 := Ext.upd (o := .dK (mergeK [] (kvs0 sl))) h_p4
            have m_p4 : upd J p4 (.dK (mergeK [] (kvs0 sl))) p4 = some (.dK (mergeK [] (kvs0 sl))) := upd_same
            generalize upd J p4 (.dK (mergeK [] (kvs0 sl))) = H6 at e_p4 m_p4 ⊢
            rw [hmg] at m_p4
            have f6 := ((e_l3.trans e_p).trans eJ).trans e_p4
            refine ⟨_, rfl, .inl ⟨rfl, _, SqL.of (f6 _ _ hD2)⟩, _, rfl, by decide, fun l5 h_l5 => ?_⟩
            have e_l5 := Ext.upd (o := .lst []) h_l5
            have m_l5 : upd H6 l5 (.lst []) l5 = some (.lst []) := upd_same
            generalize upd H6 l5 (.lst []) = H7 at e_l5 m_l5 ⊢
            have f7 := f6.trans e_l5
            refine neD_lst (us := []) (SqL.of (f7 _ _ hl2)) (SqL.of m_l5) fl_nats (fun _ h => nomatch h) ⟨_, rfl, ?_⟩
            rw [eqv_nil, decide_eq_false hne]
            have hcard : dist (us.take i) u = some (kvs0 (sl.foldl ins [])).length := by
              rw [dist_aheads h0, hsl]
              unfold kvs0 card
              rw [List.length_map]
            obtain ⟨g1, g2⟩ := hval hcard f7
            exact iteT ⟨_, rfl, p4, _, rfl, e_l5 _ _ m_p4, D, _, _, rfl, rfl, f7 _ _ hD2, small_sz (by rw [List.length_map, List.length_range]; omega), g1, ⟨_, _, _, _, rfl⟩, g2⟩
    · obtain ⟨e, ⟨_, _, _, _, rfl⟩, hD⟩ := pv
      rw [List.length_map] at hD
      exact ⟨_, rfl, q D H' e hDn hD⟩
end
end K02

set_option Elab.async false
set_option maxRecDepth 100000
set_option maxHeartbeats 4000000
namespace K02
open PySem PySem.Spec PyProof.Rows L2
theorem lens_comm {bs : List Bool} {c : Int} {off n : Nat} (h : off + n ≤ bs.length) : ((List.range n).map fun j => V.int (costB c (bs.getD (off + j) false))) = (((bs.drop off).take n).map (costB c)).map V.int := by
  rw [List.map_map]
  refine List.ext_getElem? fun i => ?_
  rw [List.getElem?_map, List.getElem?_map, List.getElem?_take, List.getElem?_drop]
  by_cases hi : i < n
  · rw [List.getElem?_range hi, if_pos hi, List.getElem?_eq_getElem (show off + i < bs.length by omega)]
    show some (V.int (costB c (bs.getD (off + i) false))) = some (V.int (costB c bs[off + i]))
    rw [List.getD_eq_getElem?_getD, List.getElem?_eq_getElem (show off + i < bs.length by omega)]; rfl
  · rw [if_neg hi, List.getElem?_eq_none (by rw [List.length_range]; omega)]; rfl
/-- letters that the law holds -/
structure LsAt (K : PySem.W.Frag) (H : Hp) (l : Addr) (zs : List V) (ls : List (List Str × Int)) : Prop where
  at_ : H l = some (.lst zs)
  dp : DpAll K H zs (ls.map ltD)
  few : ls.length ≤ 18
  good : ∀ p ∈ ls, p.1.length ≤ 4 ∧ (∀ u ∈ p.1, nameS u = true) ∧ 0 ≤ p.2 ∧ p.2 ≤ 60
theorem LsAt.ext {K : PySem.W.Frag} {H H' : Hp} {l : Addr} {zs : List V} {ls : List (List Str × Int)} (h : LsAt K H l zs ls) (e : Ext H H') : LsAt K H' l zs ls := ⟨e _ _ h.at_, dps_ext e _ _ h.dp, h.few, h.good⟩
theorem LsAt.len {K : PySem.W.Frag} {H : Hp} {l : Addr} {zs : List V} {ls : List (List Str × Int)} (h : LsAt K H l zs ls) : zs.length = ls.length := by
  have := dps_len h.dp
  rwa [List.length_map] at this
theorem lt_at {K : PySem.W.Frag} {H : Hp} {x : V} {p : List Str × Int} (h : Dp K H x (ltD p)) : ∃ t a, x = .ref t ∧ SqT K H t [.ref a, .int p.2] ∧ SqT K H a (p.1.map V.str) := by
  obtain ⟨t, vs0, rfl, hs0, hd0⟩ := tup_at h
  cases hd0 with
  | cons b1 b2 =>
  cases b2 with
  | cons b2 b3 =>
  cases b3
  cases b2
  obtain ⟨a1, us1, rfl, hs1, hd1⟩ := tup_at b1
  have hu1 := dps_str hd1
  subst hu1
  exact ⟨t, a1, rfl, hs0, hs1⟩
theorem hds_rows (ls : List (List Str × Int)) : (ls.map fun p => p.1.map PyData.str).flatten = (hds ls).map PyData.str := by
  induction ls with
  | nil => rfl
  | cons p ls ih =>
    rw [List.map_cons, List.flatten_cons, ih]
    unfold hds
    rw [List.flatMap_cons, List.map_append]
section
variable {P : Program} {w : World} {K : PySem.W.Frag} {mg : Str → Option Value} {base : Heap} {A : Ad}
def spLLens (K : PySem.W.Frag) : Sp := fun vs H Q _ => ∃ (l : Addr) (zs : List V) (ls : List (List Str × Int)) (n : Nat) (c : Int), vs = [.ref l, .int (n : Int), .int c] ∧ LsAt K H l zs ls ∧ n ≤ 4 ∧ ∀ D H', Ext H H' → H D = none → H' D = some (.lst ((lens (shB n (hds ls)) c ls 0).map V.int)) → Q (.ref D) H'
theorem ok_llens {f : Addr} {fd : FuncData} (F : Fun K "_law_lengths" "_law_lengths" s__law_lengths f fd) (T : Txt K mg A) (O__law_joined : Own P w K mg base CX0 "_law_joined" 1 pm__law_joined (spJoined K)) (O__law_shorts : Own P w K mg base CX0 "_law_shorts" 2 pm__law_shorts (spLShorts K)) : FnOk P w K mg base CX0 3 f fd pm__law_lengths (spLLens K) := by
  refine F.ok sc__law_lengths (fun vs H Q E h => ?_) (fun cdv A' outer sh H vs Q E hr h => ?_)
  · obtain ⟨_, _, _, _, _, rfl, _⟩ := h
    rfl
  · obtain ⟨l, zs, ls, n, c, rfl, hL, hn4, q⟩ := h
    refine ⟨_, pss_cons (ps_asg (pe_tup (pa_cons (pe_own O__law_shorts (hr.mono (by decide)) pass0 (pa_cons (pe_own O__law_joined (hr.mono (by decide)) pass0 (pa_cons (pe_lc (own := [("_law_letter", 8)]) (g := gName 8) (by rfl) sc__law_lengths.nd (pi_list (pv 0)) (blkOk_by (own := [("_law_letter", 8)]) (N := nm__law_lengths) (sc := defScope s__law_lengths) (by decide +kernel)) (fun _ _ _ _ _ => pg_name (i := 8) sc__law_lengths.nd rfl (Or.inl rfl)) (fun s1 H1 C1 cl fp => pts_nil) (fun s1 H1 C1 cl fp => pe_ix (ix_tupK (K := K) rfl) (pv 8) (pe_int) (fun _ _ => rfl))) pa_nil)) (pa_cons (pv 1) pa_nil))) (pa_cons (pe_lst (pa_nil)) (pa_cons (pe_int) pa_nil)))) (pg_tup rfl (pgs_cons (pg_name (i := 3) sc__law_lengths.nd rfl (Or.inr rfl)) (pgs_cons (pg_name (i := 4) sc__law_lengths.nd rfl (Or.inl rfl)) (pgs_cons (pg_name (i := 5) sc__law_lengths.nd rfl (Or.inr rfl)) (pgs_nil))))))
      (pss_cons (ps_for PassesOwn.never rfl (pi_list (pv 0)) (pg_tup rfl (pgs_cons (pg_name (i := 6) sc__law_lengths.nd rfl (Or.inl rfl)) (pgs_cons (pg_name (i := 7) sc__law_lengths.nd rfl (Or.inl rfl)) (pgs_nil)))) (pss_cons (ps_expr (pe_bm PySem.F.plainAttrs_list PySem.F.slot_list_append PySem.F.type_list_append mt_append (pv 4) (pa_cons (pe_op op_add (pv 7) (pe_callB (cr_sum rfl) (by rfl) T.n_sum (by decide +kernel) (pa_cons (pe_lc (own := [("_law_index", 9)]) (g := gName 9) (by rfl) sc__law_lengths.nd (pi_range1 rfl T.n_range (pa_cons (pe_callB call_len_seq (by rfl) T.n_len (by decide +kernel) (pa_cons (pv 6) pa_nil)) pa_nil)) (blkOk_by (own := [("_law_index", 9)]) (N := nm__law_lengths) (sc := defScope s__law_lengths) (by decide +kernel)) (fun _ _ _ _ _ => pg_name (i := 9) sc__law_lengths.nd rfl (Or.inl rfl)) (fun s1 H1 C1 cl fp => pts_nil) (fun s1 H1 C1 cl fp => pe_ifExp (pt_val (pe_ix (ix_listK (K := K) rfl) (pv 3) (pe_op op_add (pv 5) (pv 9)) (fun _ _ => rfl))) (pe_int) (pv 2))) pa_nil))) pa_nil)))
      (pss_one (ps_set (i := 5) sc__law_lengths.nd rfl (Or.inr rfl) (pe_op op_add (pv 5) (pe_callB call_len_seq (by rfl) T.n_len (by decide +kernel) (pa_cons (pv 6) pa_nil)))))))
      (pss_one (ps_ret (pv 4)))), ?_⟩
    have hzl := hL.len
    have h18 := hL.few
    have hsm := hds_small fun p hp => (hL.good p hp).1
    have hnm : ∀ u ∈ hds ls, nameS u = true := fun u hu => by
      obtain ⟨p, hp, hu⟩ := List.mem_flatMap.mp hu
      exact (hL.good p hp).2.1 u hu
    refine ⟨_, rfl, l, rfl, ⟨_, SqL.of hL.at_⟩, fun D hD => ?_⟩
    refine lc_list (xs := zs) (fun i J => ∃ ws, Ext H J ∧ J D = some (.lst ws) ∧ ws.length = i ∧ ∀ (j : Nat) (p : List Str × Int), j < i → ls[j]? = some p → ∃ a, ws[j]? = some (.ref a) ∧ SqT K H a (p.1.map V.str)) ⟨[], Ext.upd hD, upd_same, rfl, fun j p hj => absurd hj (Nat.not_lt_zero _)⟩ (fun i J _ pv => by obtain ⟨_, e, _⟩ := pv; exact SqL.of (e _ _ hL.at_)) (fun i x J hxi pv => ?_) (fun J pv => ?_)
    · obtain ⟨ws, e, hDJ, hwl, hw⟩ := pv
      obtain ⟨d, hdi, hdv⟩ := dps_get hL.dp hxi
      rw [List.getElem?_map] at hdi
      obtain ⟨p, hp, rfl⟩ := Option.map_eq_some_iff.mp hdi
      obtain ⟨t, a, rfl, ht, ha⟩ := lt_at hdv
      have hil := (List.getElem?_eq_some_iff.mp hp).1
      refine ⟨rfl, _, rfl, t, _, (0 : Int), .ref a, rfl, rfl, ht.ext e, atI_nat (j := 0) rfl, ws, hDJ, small_sz (by omega), ws ++ [.ref a], ext_mut e hD, upd_same, by rw [List.length_append, hwl]; rfl, fun j p' hj hp' => ?_⟩
      by_cases hji : j < i
      · obtain ⟨a', h1, h2⟩ := hw j p' hji hp'
        exact ⟨a', by rw [List.getElem?_append_left (by omega)]; exact h1, h2⟩
      · obtain rfl : j = i := by omega
        rw [hp] at hp'
        cases hp'
        exact ⟨a, by rw [List.getElem?_append_right (by omega), hwl, Nat.sub_self]; rfl, ha⟩
    · obtain ⟨ws, e, hDJ, hwl, hw⟩ := pv
      refine ⟨D, ws, ls.map fun p => p.1.map PyData.str, rfl, SqL.of hDJ, ⟨by rw [List.length_map, hwl, hzl], fun i r hir => ?_⟩, by rw [hds_rows, List.length_map]; omega, fun j us2 H2 e2 hjn hj hus => ?_⟩
      · rw [List.getElem?_map] at hir
        obtain ⟨p, hp, rfl⟩ := Option.map_eq_some_iff.mp hir
        obtain ⟨a, h1, h2⟩ := hw i p (by have := (List.getElem?_eq_some_iff.mp hp).1; omega) hp
        exact ⟨a, _, h1, .inr (h2.ext e), str_dps⟩
      rw [hds_rows] at hus
      have hue := dps_str hus
      subst hue
      refine ⟨_, rfl, j, hds ls, n, rfl, SqL.of hj, hnm, hn4, by omega, fun B H3 e3 hBn hB => ?_⟩
      have e03 := (e.trans e2).trans e3
      generalize hbs : shB n (hds ls) = bs at hB q
      have hbl : bs.length = (hds ls).length := by rw [← hbs, shB_len]
      refine ⟨by show 0 ≤ sizeLine; decide, fun R h_R => ?_⟩
      have hRn := ext_none e03 h_R
      have e_R := Ext.upd (o := .lst []) h_R
      have m_R : upd H3 R (.lst []) R = some (.lst []) := upd_same
      generalize upd H3 R (.lst []) = H4 at e_R m_R ⊢
      refine ⟨by show 3 ≤ sizeLine; decide, fun t3 h_t3 => ?_⟩
      have e_t3 := Ext.upd (o := .tup [.ref B, .ref R, .int 0]) h_t3
      have m_t3 : upd H4 t3 (.tup [.ref B, .ref R, .int 0]) t3 = some (.tup [.ref B, .ref R, .int 0]) := upd_same
      generalize upd H4 t3 (.tup [.ref B, .ref R, .int 0]) = H5 at e_t3 m_t3 ⊢
      refine ⟨t3, _, rfl, SqT.of m_t3, rfl, _, _, rfl, _, _, rfl, _, _, rfl, rfl, ?_⟩
      have e05 := (e03.trans e_R).trans e_t3
      have hBR : B ≠ R := ne_of_none hB h_R
      refine ⟨_, rfl, l, rfl, ⟨_, SqL.of (e05 _ _ hL.at_)⟩, ?_⟩
      have hB5 := (e_R.trans e_t3) _ _ hB
      have hR5 := e_t3 _ _ m_R
      refine for_list (xs := zs) (fun i σ' J => ∃ o6 o7, σ' = [some (.ref l), some (.int (n : Int)), some (.int c), some (.ref B), some (.ref R), some (.int (offs ls i : Nat)), o6, o7, none, none] ∧ Ext H J ∧ J B = some (.lst (bs.map V.bl)) ∧ J R = some (.lst (((lens bs c ls 0).take i).map V.int))) ⟨_, _, by rw [offs_zero]; rfl, e05, hB5, hR5⟩ (fun i σ' J _ pv => by obtain ⟨_, _, _, e, _⟩ := pv; exact SqL.of (e _ _ hL.at_)) (fun i x σ' J hi pv => ?_) (fun σ' J pv => ?_)
      · obtain ⟨o6, o7, rfl, eJ, hBJ, hRJ⟩ := pv
        obtain ⟨d, hdi, hdv⟩ := dps_get hL.dp hi
        rw [List.getElem?_map] at hdi
        obtain ⟨p, hp, rfl⟩ := Option.map_eq_some_iff.mp hdi
        obtain ⟨t, a, rfl, ht, ha⟩ := lt_at hdv
        have hpl := hL.good p (List.mem_of_getElem? hp)
        have hil := (List.getElem?_eq_some_iff.mp hp).1
        have hof := offs_le ls i
        have hof1 := offs_le ls (i + 1)
        have hos := offs_succ ls i p hp
        refine ⟨t, _, rfl, ht.ext eJ, rfl, _, _, rfl, _, _, rfl, rfl, ?_⟩
        refine ⟨_, rfl, .inl ⟨rfl, _, SqL.of hRJ⟩, _, rfl, _, rfl, a, _, rfl, .inr (ha.ext eJ), _, rfl, by rw [List.length_map]; omega, by rw [List.length_map]; omega, ?_⟩
        have hvl : (p.1.map V.str).length = p.1.length := List.length_map _
        rw [hvl]
        refine lc_rgR (n := p.1.length) (b := fun _ => true) (f := fun j => V.int (costB c (bs.getD (offs ls i + j) false))) (small_sz (by omega)) (fun x => rfl) (fun j hj H' e' Q' q' => q' H' Ext.rfl') (fun j hj _ H6 e6 Q' q' => ?_) (fun D6 H6 hD6 e6 hl6 => ?_)
        · have hbt : bs[offs ls i + j]? = some bs[offs ls i + j] := List.getElem?_eq_getElem (by omega)
          have hg : (bs.map V.bl)[offs ls i + j]? = some (.bl bs[offs ls i + j]) := by rw [List.getElem?_map, hbt]; rfl
          have hq := q' H6 Ext.rfl'
          have hgd : bs.getD (offs ls i + j) false = bs[offs ls i + j] := by rw [List.getD_eq_getElem?_getD, hbt]; rfl
          rw [hgd] at hq
          refine ⟨_, rfl, _, rfl, _, rfl, _, _, rfl, rfl, B, _, ((offs ls i + j : Nat) : Int), _, rfl, by rw [Int.zero_add]; rfl, SqL.of (e6 _ _ hBJ), atI_nat hg, _, rfl, ?_⟩
          cases hb : bs[offs ls i + j] with
          | true =>
            rw [hb] at hq
            exact iteT hq
          | false =>
            rw [hb] at hq
            exact iteF ⟨_, rfl, hq⟩
        · rw [List.filter_eq_self.mpr fun _ _ => rfl, lens_comm (by omega)] at hl6
          have hla := lens_at bs c ls 0 i p hp
          rw [Nat.zero_add] at hla
          have hR6 := e6 _ _ hRJ
          have hv : V.int (((offs ls i : Nat) : Int) + ((p.1.map V.str).length : Nat)) = V.int ((offs ls (i + 1) : Nat) : Int) := by rw [hos, List.length_map]; rfl
          refine ⟨D6, _, rfl, SqL.of hl6, _, _, rfl, rfl, R, _, _, rfl, rfl, hR6, small_sz (by rw [List.length_map, List.length_take]; omega), ?_⟩
          have eG : Ext H (upd H6 R (.lst (((lens bs c ls 0).take i).map V.int ++ [V.int (p.2 + (((bs.drop (offs ls i)).take p.1.length).map (costB c)).sum)]))) := ext_mut (eJ.trans e6) hRn
          refine ⟨_, rfl, _, rfl, a, _, rfl, .inr (ha.ext eG), _, _, rfl, rfl, _, _, by rw [← hv]; rfl, eG, by rw [upd_ne hBR]; exact e6 _ _ hBJ, ?_⟩
          rw [upd_same, L2.take_snoc hla, List.map_append, Int.add_comm]; rfl
      · obtain ⟨o6, o7, rfl, eJ, hBJ, hRJ⟩ := pv
        rw [List.take_of_length_le (by rw [lens_len]; omega)] at hRJ
        exact ⟨_, rfl, q R J eJ hRn hRJ⟩
end
end K02

set_option Elab.async false
set_option maxRecDepth 100000
set_option maxHeartbeats 4000000
namespace K02
open PySem PySem.Spec PyProof.Rows L2
theorem iteN {c A B : Prop} [Decidable c] (h : ¬ c) (b : B) : if c then A else B := by
  rw [if_neg h]
  exact b
theorem ne_same {K : PySem.W.Frag} {H : Hp} {t t' : Addr} {xs : List V} {Q : VK} (h : H t = some (.lst xs)) (h' : H t' = some (.lst xs)) (fx : ∀ v ∈ xs, Fl v) (q : Q (.bl false) H) : rNeD K (.ref t) (.ref t') H Q := by
  refine neD_lst (SqL.of h) (SqL.of h') fx fx ?_
  have : PyData.eqvAll (xs.map pd) (xs.map pd) = true := PySem.SeqAt.eqv_refl (.list (xs.map pd)) (lay_all fx).1
  rw [this]
  exact q
theorem fl_two {a b : V} (ha : Fl a) (hb : Fl b) : ∀ v ∈ [a, b], Fl v := fun v hv => by
  rcases List.mem_cons.mp hv with rfl | hv
  · exact ha
  · rw [List.mem_singleton.mp hv]
    exact hb
theorem flS {s : Str} (h : PyData.canLay0 (.str s) = true) : Fl (.str s) := h
theorem fl_int (i : Int) : Fl (.int i) := trivial
theorem eq_same {K : PySem.W.Frag} {H : Hp} {t t' : Addr} {xs : List V} {Q : VK} (h : H t = some (.lst xs)) (h' : H t' = some (.lst xs)) (fx : ∀ v ∈ xs, Fl v) (q : Q (.bl true) H) : rEqD K (.ref t) (.ref t') H Q := by
  refine ⟨_, _, .lst (SqL.of h) (dp_all fx), .lst (SqL.of h') (dp_all fx), shp_lst fx, shp_lst fx, ?_⟩
  have : PyData.eqvAll (xs.map pd) (xs.map pd) = true := PySem.SeqAt.eqv_refl (.list (xs.map pd)) (lay_all fx).1
  show Q (.bl (PyData.eqvAll (xs.map pd) (xs.map pd))) H
  rw [this]
  exact q
inductive O5
  | head (v : V)
  | part (s : Str)
def O5E (A : Ad) (E : XK) (H : Hp) : O5 → Prop
  | .head v => ErrH A E H v
  | .part s => ErrP A E H s
def O5V : O5 → List V
  | .head v => [.str "head", v]
  | .part s => [.str "part", .str s]
/-- heads that are wrong, and how it is told -/
def HB (K : PySem.W.Frag) (H : Hp) (v : V) (o : O5) : Prop := ∃ d, Dp K H v d ∧ (∀ ds, itemsD d = some ds → ∀ x ∈ ds, SmD x) ∧ ((isSeqD d = false ∧ o = .head .non) ∨ ∃ ds i, itemsD d = some ds ∧ badAt ds = some i ∧ o = .head (.int (i : Nat)))
theorem HB.bad {K : PySem.W.Frag} {A : Ad} {E : XK} {H : Hp} {v : V} {o : O5} (h : HB K H v o) (e : O5E A E H o) : HdsBad K A E H v := by
  obtain ⟨d, hd, hsm, ⟨h, rfl⟩ | ⟨ds, i, h1, h2, rfl⟩⟩ := h
  · exact ⟨d, hd, hsm, .inl ⟨h, e⟩⟩
  · exact ⟨d, hd, hsm, .inr ⟨ds, i, h1, h2, e⟩⟩
def Ask5 (K : PySem.W.Frag) (A : Ad) (H : Hp) (door : Int) (x y z : V) (o : O5) : Prop :=
  (door = 0 ∧ HB K H x o) ∨
  ((door = 1 ∧ (HB K H x o ∨ ∃ (a : Addr) (us : List Str) (d : PyData), x = .ref a ∧ Hds K H a us ∧ (∀ u ∈ us, nameS u = true) ∧ Dp K H y d ∧ betD d 0 4 = false ∧ o = .part "places")) ∨
  ((door = 3 ∧ ((∃ d, Dp K H x d ∧ o = .part "mail") ∨ (∃ m ls d, x = .ref m ∧ MlAt K A H m ls ∧ Dp K H y d ∧ betD d 0 4 = false ∧ o = .part "places") ∨ ∃ (m : Addr) (ls : List (List Str × Int)) (n : Nat) (d : PyData), x = .ref m ∧ y = .int (n : Int) ∧ MlAt K A H m ls ∧ n ≤ 4 ∧ Dp K H z d ∧ betD d 2 9 = false ∧ o = .part "cost")) ∨
  (door = 6 ∧ ((∃ d, Dp K H x d ∧ o = .part "mail") ∨ (∃ m ls d, x = .ref m ∧ MlAt K A H m ls ∧ Dp K H y d ∧ betD d 2 9 = false ∧ o = .part "cost") ∨ ∃ (m : Addr) (ls : List (List Str × Int)) (c : Int) (d : PyData), x = .ref m ∧ y = .int c ∧ MlAt K A H m ls ∧ 2 ≤ c ∧ c ≤ 9 ∧ Dp K H z d ∧ (d = .int (-1) ∨ d = .bool true) ∧ o = .part "most"))))
section
variable {P : Program} {w : World} {K : PySem.W.Frag} {mg : Str → Option Value} {base : Heap} {A : Ad}
def spCalled5 (K : PySem.W.Frag) (A : Ad) : Sp := fun vs H Q E => ∃ (door : Int) (x y z : V) (o : O5), vs = [.int door, x, y, z] ∧ Ask5 K A H door x y z o ∧ O5E A E H o
theorem ok_called5 {f : Addr} {fd : FuncData} (F : Fun K "_law_called" "_law_called" s__law_called f fd) (T : Txt K mg A) (O_distances : Own P w K mg base (L2.CX P w) "distances" 4 pm_distances (spDists K A)) (O_shorts : Own P w K mg base (L2.CX P w) "shorts" 6 pm_shorts (spShorts K A)) (O_letter_lengths : Own P w K mg base (L2.CX P w) "letter_lengths" 8 pm_letter_lengths (spLens K A)) (O_places_for : Own P w K mg base (L2.CX P w) "places_for" 10 pm_places_for (spPlacesFor K A)) : FnOk P w K mg base (L2.CX P w) 11 f fd pm__law_called (spCalled5 K A) := by
  refine F.okX sc__law_called (fun vs H Q E h => ?_) (fun cdv A' outer sh H vs Q E hr h => ?_)
  · obtain ⟨_, _, _, _, _, rfl, _⟩ := h
    rfl
  · obtain ⟨door, x, y, z, o, rfl, h, hE⟩ := h
    refine ⟨_, pss_one (ps_if (pt_cmpR op_eq (pv 0) (pe_int) (nomark _)) (pss_one (ps_expr (pe_ownS O_distances (hr.mono (by decide)) (takes_of rfl rfl rfl rfl) (pa_cons (pv 1) pa_nil)))) (pss_one (ps_if (pt_cmpR op_eq (pv 0) (pe_int) (nomark _)) (pss_one (ps_expr (pe_ownS O_shorts (hr.mono (by decide)) (takes_of rfl rfl rfl rfl) (pa_cons (pv 1) (pa_cons (pv 2) pa_nil))))) (pss_one (ps_if (pt_cmpR op_eq (pv 0) (pe_int) (nomark _)) (pss_one (ps_expr (pe_ownS O_letter_lengths (hr.mono (by decide)) (takes_of rfl rfl rfl rfl) (pa_cons (pv 1) (pa_cons (pv 2) (pa_cons (pv 3) pa_nil)))))) (pss_one (ps_expr (pe_ownS O_places_for (hr.mono (by decide)) (takes_of rfl rfl rfl rfl) (pa_cons (pv 1) (pa_cons (pv 2) (pa_cons (pv 3) pa_nil))))))))))), ?_⟩
    rcases h with ⟨rfl, h⟩ | ⟨rfl, h⟩ | ⟨rfl, h⟩ | ⟨rfl, h⟩
    · exact ⟨_, rfl, rfl, _, rfl, iteT ⟨_, rfl, .inr ⟨x, rfl, h.bad hE⟩⟩⟩
    · refine ⟨_, rfl, rfl, _, rfl, iteN (by decide) ⟨_, rfl, rfl, _, rfl, iteT ⟨_, rfl, _, rfl, ?_⟩⟩⟩
      rcases h with h | ⟨a, us, d, rfl, hx, hn, hd, hb, rfl⟩
      · exact .inr (.inl ⟨x, y, rfl, h.bad hE⟩)
      · exact .inr (.inr ⟨a, us, y, d, rfl, hx, hn, hd, hb, hE⟩)
    · refine ⟨_, rfl, rfl, _, rfl, iteN (by decide) ⟨_, rfl, rfl, _, rfl, iteN (by decide) ⟨_, rfl, rfl, _, rfl, iteT ⟨_, rfl, _, rfl, _, rfl, ?_⟩⟩⟩⟩
      rcases h with ⟨d, hd, rfl⟩ | ⟨m, ls, d, rfl, hM, hd, hb, rfl⟩ | ⟨m, ls, n, d, rfl, rfl, hM, hn, hd, hb, rfl⟩
      · exact .inr (.inl ⟨x, y, z, d, rfl, hd, hE⟩)
      · exact .inr (.inr (.inl ⟨m, ls, y, z, d, rfl, hM, hd, hb, hE⟩))
      · exact .inr (.inr (.inr ⟨m, ls, n, z, d, rfl, hM, hn, hd, hb, hE⟩))
    · refine ⟨_, rfl, rfl, _, rfl, iteN (by decide) ⟨_, rfl, rfl, _, rfl, iteN (by decide) ⟨_, rfl, rfl, _, rfl, iteN (by decide) ⟨_, rfl, _, rfl, _, rfl, ?_⟩⟩⟩⟩
      rcases h with ⟨d, hd, rfl⟩ | ⟨m, ls, d, rfl, hM, hd, hb, rfl⟩ | ⟨m, ls, c, d, rfl, rfl, hM, hc2, hc9, hd, hb, rfl⟩
      · exact .inr (.inl ⟨x, y, z, d, rfl, hd, hE⟩)
      · exact .inr (.inr (.inl ⟨m, ls, y, z, d, rfl, hM, hd, hb, hE⟩))
      · exact .inr (.inr (.inr ⟨m, ls, c, z, d, rfl, hM, hc2, hc9, hd, hb, hE⟩))
def tsL4 (C : Addr) (wd f : Str) : SuT := fun a cls d => tRet (tLst (tCons (tC (.str wd)) (tCons (tXf a cls d C f (tVar 4)) tNil)))
def tbL (K : PySem.W.Frag) (A : Ad) (W : WX) : TS := tDrop (tCallS (spCalled5 K A) (WE W) (tCons (tVar 0) (tCons (tVar 1) (tCons (tVar 2) (tCons (tVar 3) tNil)))))
def spRefd5 (K : PySem.W.Frag) (A : Ad) : Sp := fun vs H Q _ => ∃ (door : Int) (x y z : V) (o : O5), vs = [.int door, x, y, z] ∧ Ask5 K A H door x y z o ∧ ∀ t H', Ext H H' → H' t = some (.lst (O5V o)) → Q (.ref t) H'
theorem ok_refd5 {f : Addr} {fd : FuncData} (F : Fun K "_law_refused" "_law_refused" s__law_refused f fd) (T : Txt K mg A) (O__law_called : Own P w K mg base (L2.CX P w) "_law_called" 11 pm__law_called (spCalled5 K A)) : FnOk P w K mg base CX0 12 f fd pm__law_refused (spRefd5 K A) := by
  refine F.ok sc__law_refused (fun vs H Q E h => ?_) (fun cdv A' outer sh H vs Q E hr h => ?_)
  · obtain ⟨_, _, _, _, _, rfl, _⟩ := h
    rfl
  · obtain ⟨door, x, y, z, o, rfl, hA, h⟩ := h
    refine ⟨_, pss_cons (ps_try_manyA (tb := tbL K A) (l := [(.ref A.BadHead, 4, tsL4 A.BadHead "head" "index"), (.ref A.BadPart, 4, tsL4 A.BadPart "part" "part")]) (Wo := fun _ _ _ _ => False) rfl rfl sc__law_refused.nd takes0
        (fun W pn xe tk _ => (pss_one (ps_expr (by exact (pe_ownS O__law_called (hr.mono (by decide)) tk (pa_cons (pv 0) (pa_cons (pv 1) (pa_cons (pv 2) (pa_cons (pv 3) pa_nil)))))))))
        (.cons rfl rfl ⟨rfl, by decide, Or.inl T.BadHead.gC⟩ (fun a oe cls d pn hz hf => pss_one (ps_ret (pe_lst (pa_cons pe_str (pa_cons (by exact (pe_xf ⟨T.BadHead.ec.hg, T.BadHead.ec.hk, T.BadHead.ec.hs, T.BadHead.ec.hd⟩ T.BadHead.noA hz hf (pv 4))) pa_nil)))))
        (.cons rfl rfl ⟨rfl, by decide, Or.inl T.BadPart.gC⟩ (fun a oe cls d pn hz hf => pss_one (ps_ret (pe_lst (pa_cons pe_str (pa_cons (by exact (pe_xf ⟨T.BadPart.ec.hg, T.BadPart.ec.hk, T.BadPart.ec.hs, T.BadPart.ec.hd⟩ T.BadPart.noA hz hf (pv 4))) pa_nil)))))
        .nil)))
      (pss_one (ps_ret (pe_non))), ?_⟩
    refine ⟨_, rfl, _, rfl, _, rfl, _, rfl, door, x, y, z, o, rfl, hA, ?_⟩
    cases o with
    | head v => exact fun H' e1 e he => ⟨true, T.x_hh, fun _ q hq2 => ⟨_, rfl, rfl, rfl, e, _, v, rfl, upd_same, rfl, by show 2 ≤ sizeLine; decide, fun t ht => h t _ ((e1.trans (Ext.upd he)).trans (Ext.upd ht)) upd_same⟩, (fun z => nomatch z)⟩
    | part s => exact fun H' e1 e he => ⟨false, T.x_ph, (fun z => nomatch z), fun _ => ⟨true, T.x_pp, fun _ q hq2 => ⟨_, rfl, rfl, rfl, e, _, .str s, rfl, upd_same, rfl, by show 2 ≤ sizeLine; decide, fun t ht => h t _ ((e1.trans (Ext.upd he)).trans (Ext.upd ht)) upd_same⟩, (fun z => nomatch z)⟩⟩
theorem fl_p {s : Str} (h : PyData.canLay0 (.str s) = true) : ∀ v ∈ O5V (.part s), Fl v := fl_two (flS (by decide +kernel)) (flS h)
theorem fl_h {v : V} (h : Fl v) : ∀ x ∈ O5V (.head v), Fl x := fl_two (flS (by decide +kernel)) h
def spOddsRef (K : PySem.W.Frag) (A : Ad) : Sp := fun vs H Q _ => ∃ (m a : Addr) (ls : List (List Str × Int)) (us : List Str), vs = [.ref m, .ref a] ∧ MlAt K A H m ls ∧ H a = some (.lst (us.map V.str)) ∧ (∀ u ∈ us, nameS u = true) ∧ us.length ≤ 300 ∧ ∀ H', Q (.bl true) H'
theorem hb_cat {H : Hp} {l : Addr} {us : List Str} (hl : H l = some (.lst (us.map V.str ++ [.str "A", .non]))) (hn : ∀ u ∈ us, nameS u = true) : HB K H (.ref l) (.head (.int (us.length : Nat))) := by
  refine ⟨.list (us.map PyData.str ++ [.str "A", .none]), .lst (SqL.of hl) (dps_app str_dps (.cons (.str _) (.cons .non .nil))), fun ds h x hx => ?_, .inr ⟨_, us.length, rfl, ?_, rfl⟩⟩
  · cases h
    rcases List.mem_append.mp hx with hx | hx
    · obtain ⟨u, hu, rfl⟩ := List.mem_map.mp hx
      exact name_sm (hn u hu)
    · rcases List.mem_cons.mp hx with rfl | hx
      · show ("A" : Str).length ≤ 1000; decide
      · rw [List.mem_singleton.mp hx]; trivial
  · unfold badAt
    refine find_at (i := us.length) (d := .str "A") (fun j d hj hd => ?_) ?_ (by decide +kernel)
    · rw [List.getElem?_append_left (by rw [List.length_map]; exact hj), List.getElem?_map] at hd
      obtain ⟨u, hu, rfl⟩ := Option.map_eq_some_iff.mp hd
      show (!nameS u) = false
      rw [hn u (List.mem_of_getElem? hu)]; rfl
    · rw [List.getElem?_append_right (by rw [List.length_map]; exact Nat.le_refl _), List.length_map, Nat.sub_self]; rfl
theorem ok_oddsRef {f : Addr} {fd : FuncData} (F : Fun K "_law_odds_refused" "_law_odds_refused" s__law_odds_refused f fd) (T : Txt K mg A) (O__law_refused : Own P w K mg base CX0 "_law_refused" 12 pm__law_refused (spRefd5 K A)) : FnOk P w K mg base CX0 13 f fd pm__law_odds_refused (spOddsRef K A) := by
  refine F.ok sc__law_odds_refused (fun vs H Q E h => ?_) (fun cdv A' outer sh H vs Q E hr h => ?_)
  · obtain ⟨_, _, _, _, rfl, _⟩ := h
    rfl
  · obtain ⟨m, a, ls, us, rfl, hM, ha, hn, h300, q⟩ := h
    refine ⟨_, pss_cons (ps_for PassesOwn.never rfl (pi_list (pe_lst (pa_cons (pe_non) (pa_cons (pe_int) (pa_cons (pe_str) (pa_cons (pv 1) pa_nil)))))) (pg_name (i := 2) sc__law_odds_refused.nd rfl (Or.inl rfl)) (pss_one (ps_for PassesOwn.never rfl (pi_list (pe_lst (pa_cons (pe_int) (pa_cons (pe_int) pa_nil)))) (pg_name (i := 3) sc__law_odds_refused.nd rfl (Or.inl rfl)) (pss_one (ps_if (pt_cmpR (op_neD hr.units) (pe_own O__law_refused (hr.mono (by decide)) pass0 (pa_cons (pv 3) (pa_cons (pv 2) (pa_cons (pe_non) (pa_cons (pe_non) pa_nil))))) (pe_lst (pa_cons (pe_str) (pa_cons (pe_str) pa_nil))) (nomark _)) (pss_one (ps_ret (pe_bl))) (pss_nil))))))
      (pss_cons (ps_for PassesOwn.never rfl (pi_list (pe_lst (pa_cons (pe_int) (pa_cons (pe_int) pa_nil)))) (pg_name (i := 3) sc__law_odds_refused.nd rfl (Or.inl rfl)) (pss_cons (ps_if (pt_cmpR (op_neD hr.units) (pe_own O__law_refused (hr.mono (by decide)) pass0 (pa_cons (pv 3) (pa_cons (pe_non) (pa_cons (pe_non) (pa_cons (pe_non) pa_nil))))) (pe_lst (pa_cons (pe_str) (pa_cons (pe_non) pa_nil))) (nomark _)) (pss_one (ps_ret (pe_bl))) (pss_nil))
      (pss_one (ps_if (pt_cmpR (op_neD hr.units) (pe_own O__law_refused (hr.mono (by decide)) pass0 (pa_cons (pv 3) (pa_cons (pe_op op_cat (pv 1) (pe_lst (pa_cons (pe_str) (pa_cons (pe_non) pa_nil)))) (pa_cons (pe_non) (pa_cons (pe_non) pa_nil))))) (pe_lst (pa_cons (pe_str) (pa_cons (pe_callB call_len_seq (by rfl) T.n_len (by decide +kernel) (pa_cons (pv 1) pa_nil)) pa_nil))) (nomark _)) (pss_one (ps_ret (pe_bl))) (pss_nil)))))
      (pss_cons (ps_for PassesOwn.never rfl (pi_list (pe_lst (pa_cons (pe_non) (pa_cons (pe_un un_neg (pe_int)) (pa_cons (pe_int) (pa_cons (pe_bl) pa_nil)))))) (pg_name (i := 2) sc__law_odds_refused.nd rfl (Or.inl rfl)) (pss_cons (ps_if (pt_cmpR (op_neD hr.units) (pe_own O__law_refused (hr.mono (by decide)) pass0 (pa_cons (pe_int) (pa_cons (pv 1) (pa_cons (pv 2) (pa_cons (pe_non) pa_nil))))) (pe_lst (pa_cons (pe_str) (pa_cons (pe_str) pa_nil))) (nomark _)) (pss_one (ps_ret (pe_bl))) (pss_nil))
      (pss_one (ps_if (pt_cmpR (op_neD hr.units) (pe_own O__law_refused (hr.mono (by decide)) pass0 (pa_cons (pe_int) (pa_cons (pv 0) (pa_cons (pv 2) (pa_cons (pe_non) pa_nil))))) (pe_lst (pa_cons (pe_str) (pa_cons (pe_str) pa_nil))) (nomark _)) (pss_one (ps_ret (pe_bl))) (pss_nil)))))
      (pss_cons (ps_for PassesOwn.never rfl (pi_list (pe_lst (pa_cons (pe_non) (pa_cons (pe_int) (pa_cons (pe_int) (pa_cons (pe_bl) pa_nil)))))) (pg_name (i := 2) sc__law_odds_refused.nd rfl (Or.inl rfl)) (pss_cons (ps_if (pt_cmpR (op_neD hr.units) (pe_own O__law_refused (hr.mono (by decide)) pass0 (pa_cons (pe_int) (pa_cons (pv 0) (pa_cons (pe_int) (pa_cons (pv 2) pa_nil))))) (pe_lst (pa_cons (pe_str) (pa_cons (pe_str) pa_nil))) (nomark _)) (pss_one (ps_ret (pe_bl))) (pss_nil))
      (pss_one (ps_if (pt_cmpR (op_neD hr.units) (pe_own O__law_refused (hr.mono (by decide)) pass0 (pa_cons (pe_int) (pa_cons (pv 0) (pa_cons (pv 2) (pa_cons (pe_non) pa_nil))))) (pe_lst (pa_cons (pe_str) (pa_cons (pe_str) pa_nil))) (nomark _)) (pss_one (ps_ret (pe_bl))) (pss_nil)))))
      (pss_one (ps_ret (pe_and (pe_cmpR (op_eqD hr.units) (pe_own O__law_refused (hr.mono (by decide)) pass0 (pa_cons (pe_int) (pa_cons (pv 0) (pa_cons (pe_int) (pa_cons (pe_un un_neg (pe_int)) pa_nil))))) (pe_lst (pa_cons (pe_str) (pa_cons (pe_str) pa_nil))) (nomark _)) (pe_one (pe_cmpR (op_eqD hr.units) (pe_own O__law_refused (hr.mono (by decide)) pass0 (pa_cons (pe_int) (pa_cons (pv 0) (pa_cons (pe_int) (pa_cons (pe_bl) pa_nil))))) (pe_lst (pa_cons (pe_str) (pa_cons (pe_str) pa_nil))) (nomark _))))))))), ?_⟩
    refine ⟨_, rfl, by show 4 ≤ sizeLine; decide, fun l1 h_l1 => ?_⟩
    have e_l1 := Ext.upd (o := .lst [.non, .int 5, .str "a", .ref a]) h_l1
    have m_l1 : upd H l1 (.lst [.non, .int 5, .str "a", .ref a]) l1 = some (.lst [.non, .int 5, .str "a", .ref a]) := upd_same
    generalize upd H l1 (.lst [.non, .int 5, .str "a", .ref a]) = J1 at e_l1 m_l1 ⊢
    refine ⟨l1, rfl, ⟨_, SqL.of m_l1⟩, ?_⟩
    have hdl : ∀ {J : Hp}, Ext H J → DpAll K J [V.non, .int 5, .str "a", .ref a] [.none, .int 5, .str "a", .list (us.map PyData.str)] := fun {J} e => .cons .non (.cons (.int _) (.cons (.str _) (.cons (.lst (SqL.of (e _ _ ha)) str_dps) .nil)))
    refine for_list (xs := [V.non, .int 5, .str "a", .ref a]) (fun i σ' J => Ext J1 J ∧ ∃ o2 o3, σ' = [some (.ref m), some (.ref a), o2, o3]) ⟨Ext.rfl', _, _, rfl⟩ (fun i σ' J _ pv => SqL.of (pv.1 _ _ m_l1)) (fun i x σ' J hi pv => ?_) (fun σ' J pv => ?_)
    · obtain ⟨e, o2, o3, rfl⟩ := pv
      refine ⟨by show 2 ≤ sizeLine; decide, fun l2 h_l2 => ?_⟩
      have e_l2 := Ext.upd (o := .lst [V.int 3, .int 6]) h_l2
      have m_l2 : upd J l2 (.lst [V.int 3, .int 6]) l2 = some (.lst [V.int 3, .int 6]) := upd_same
      generalize upd J l2 (.lst [V.int 3, .int 6]) = J2 at e_l2 m_l2 ⊢
      refine ⟨l2, rfl, ⟨_, SqL.of m_l2⟩, ?_⟩
      refine for_list (xs := [V.int 3, .int 6]) (fun j σ' J => Ext J2 J ∧ ∃ o3, σ' = [some (.ref m), some (.ref a), some x, o3]) ⟨Ext.rfl', _, rfl⟩ (fun j σ' J _ pv => SqL.of (pv.1 _ _ m_l2)) (fun j y σ' J3 hj pv => ?_) (fun σ' J3 pv => ?_)
      · obtain ⟨e3, o3', rfl⟩ := pv
        have eH := ((e_l1.trans e).trans e_l2).trans e3
        obtain ⟨d, hd, hdv⟩ := dps_get (hdl eH) hi
        have hy : ∃ dr : Int, y = .int dr ∧ (dr = 3 ∨ dr = 6) := by
          rcases j with _ | _ | j
          · cases hj; exact ⟨3, rfl, .inl rfl⟩
          · cases hj; exact ⟨6, rfl, .inr rfl⟩
          · cases hj
        obtain ⟨dr, rfl, hdr⟩ := hy
        have hA : Ask5 K A J3 dr x .non .non (.part "mail") := by
          rcases hdr with rfl | rfl
          · exact .inr (.inr (.inl ⟨rfl, .inl ⟨d, hdv, rfl⟩⟩))
          · exact .inr (.inr (.inr ⟨rfl, .inl ⟨d, hdv, rfl⟩⟩))
        refine ⟨_, rfl, _, rfl, dr, x, .non, .non, _, rfl, hA, fun t J4 e4 ht => ⟨by show 2 ≤ sizeLine; decide, fun l3 h_l3 => ?_⟩⟩
        have e_l3 := Ext.upd (o := .lst [.str "part", .str "mail"]) h_l3
        have m_l3 : upd J4 l3 (.lst [.str "part", .str "mail"]) l3 = some (.lst [.str "part", .str "mail"]) := upd_same
        generalize upd J4 l3 (.lst [.str "part", .str "mail"]) = J5 at e_l3 m_l3 ⊢
        refine ne_same (e_l3 _ _ ht) m_l3 (fl_p (by decide +kernel)) ⟨_, rfl, iteF ?_⟩
        exact ⟨(e3.trans e4).trans e_l3, _, rfl⟩
      · obtain ⟨e3, o3', rfl⟩ := pv
        exact ⟨(e.trans e_l2).trans e3, _, _, rfl⟩
    obtain ⟨e, o2, o3, rfl⟩ := pv
    replace e := e_l1.trans e
    clear e_l1 m_l1 h_l1 hdl
    refine ⟨by show 2 ≤ sizeLine; decide, fun l2 h_l2 => ?_⟩
    have e_l2 := Ext.upd (o := .lst [V.int 0, .int 1]) h_l2
    have m_l2 : upd J l2 (.lst [V.int 0, .int 1]) l2 = some (.lst [V.int 0, .int 1]) := upd_same
    generalize upd J l2 (.lst [V.int 0, .int 1]) = J2 at e_l2 m_l2 ⊢
    refine ⟨l2, rfl, ⟨_, SqL.of m_l2⟩, ?_⟩
    refine for_list (xs := [V.int 0, .int 1]) (fun j σ' J => Ext J2 J ∧ ∃ o3, σ' = [some (.ref m), some (.ref a), o2, o3]) ⟨Ext.rfl', _, rfl⟩ (fun j σ' J _ pv => SqL.of (pv.1 _ _ m_l2)) (fun j y σ' J3 hj pv => ?_) (fun σ' J3 pv => ?_)
    · obtain ⟨e3, o3', rfl⟩ := pv
      have eH := (e.trans e_l2).trans e3
      have hy : ∃ dr : Int, y = .int dr ∧ (dr = 0 ∨ dr = 1) := by
        rcases j with _ | _ | j
        · cases hj; exact ⟨0, rfl, .inl rfl⟩
        · cases hj; exact ⟨1, rfl, .inr rfl⟩
        · cases hj
      obtain ⟨dr, rfl, hdr⟩ := hy
      have hA : ∀ {G : Hp} {v : V} {o : O5}, HB K G v o → Ask5 K A G dr v .non .non o := fun {G v o} h => by
        rcases hdr with rfl | rfl
        · exact .inl ⟨rfl, h⟩
        · exact .inr (.inl ⟨rfl, .inl h⟩)
      refine ⟨_, rfl, dr, .non, .non, .non, .head .non, rfl, hA ⟨.none, .non, (fun ds h => by cases h), .inl ⟨rfl, rfl⟩⟩, fun t J4 e4 ht => ⟨by show 2 ≤ sizeLine; decide, fun l3 h_l3 => ?_⟩⟩
      have e_l3 := Ext.upd (o := .lst [.str "head", .non]) h_l3
      have m_l3 : upd J4 l3 (.lst [.str "head", .non]) l3 = some (.lst [.str "head", .non]) := upd_same
      generalize upd J4 l3 (.lst [.str "head", .non]) = J5 at e_l3 m_l3 ⊢
      refine ne_same (e_l3 _ _ ht) m_l3 (fl_h trivial) ⟨_, rfl, iteF ?_⟩
      have f5 := e4.trans e_l3
      refine ⟨_, rfl, _, rfl, by show 2 ≤ sizeLine; decide, fun l4 h_l4 => ?_⟩
      have e_l4 := Ext.upd (o := .lst [.str "A", .non]) h_l4
      have m_l4 : upd J5 l4 (.lst [.str "A", .non]) l4 = some (.lst [.str "A", .non]) := upd_same
      generalize upd J5 l4 (.lst [.str "A", .non]) = J6 at e_l4 m_l4 ⊢
      have f6 := (eH.trans f5).trans e_l4
      refine ⟨a, l4, _, _, rfl, rfl, f6 _ _ ha, m_l4, by rw [List.length_map]; show us.length + 2 ≤ sizeLine; exact Nat.le_of_lt (small_sz (by omega)), fun l5 h_l5 => ?_⟩
      have e_l5 := Ext.upd (o := .lst (us.map V.str ++ [.str "A", .non])) h_l5
      have m_l5 : upd J6 l5 (.lst (us.map V.str ++ [.str "A", .non])) l5 = some (.lst (us.map V.str ++ [.str "A", .non])) := upd_same
      generalize upd J6 l5 (.lst (us.map V.str ++ [.str "A", .non])) = J7 at e_l5 m_l5 ⊢
      refine ⟨dr, .ref l5, .non, .non, _, rfl, hA (hb_cat m_l5 hn), fun t J8 e8 ht => ?_⟩
      refine ⟨_, rfl, a, _, rfl, .inl (SqL.of (((f6.trans e_l5).trans e8) _ _ ha)), by show 2 ≤ sizeLine; decide, fun l6 h_l6 => ?_⟩
      have e_l6 := Ext.upd (o := .lst [.str "head", .int ((us.map V.str).length : Nat)]) h_l6
      have m_l6 : upd J8 l6 (.lst [.str "head", .int ((us.map V.str).length : Nat)]) l6 = some (.lst [.str "head", .int ((us.map V.str).length : Nat)]) := upd_same
      generalize upd J8 l6 (.lst [.str "head", .int ((us.map V.str).length : Nat)]) = J9 at e_l6 m_l6 ⊢
      rw [List.length_map] at m_l6
      refine ne_same (e_l6 _ _ ht) m_l6 (fl_h trivial) ⟨_, rfl, iteF ?_⟩
      exact ⟨((((e3.trans f5).trans e_l4).trans e_l5).trans e8).trans e_l6, _, rfl⟩
    obtain ⟨e3, o3', rfl⟩ := pv
    replace e := (e.trans e_l2).trans e3
    clear e_l2 m_l2 h_l2 e3
    refine ⟨_, rfl, by show 4 ≤ sizeLine; decide, fun l3 h_l3 => ?_⟩
    have e_l3 := Ext.upd (o := .lst [V.non, .int (-1), .int 5, .bl true]) h_l3
    have m_l3 : upd J3 l3 (.lst [V.non, .int (-1), .int 5, .bl true]) l3 = some (.lst [V.non, .int (-1), .int 5, .bl true]) := upd_same
    generalize upd J3 l3 (.lst [V.non, .int (-1), .int 5, .bl true]) = J4 at e_l3 m_l3 ⊢
    refine ⟨l3, rfl, ⟨_, SqL.of m_l3⟩, ?_⟩
    refine for_list (xs := [V.non, .int (-1), .int 5, .bl true]) (fun j σ' J => Ext J4 J ∧ ∃ o2 o3, σ' = [some (.ref m), some (.ref a), o2, o3]) ⟨Ext.rfl', _, _, rfl⟩ (fun j σ' J _ pv => SqL.of (pv.1 _ _ m_l3)) (fun j y σ' J5 hj pv => ?_) (fun σ' J5 pv => ?_)
    · obtain ⟨e5, o2', o3', rfl⟩ := pv
      have eH := (e.trans e_l3).trans e5
      obtain ⟨d, hd, hdv⟩ := dps_get (K := K) (H := J5) (show DpAll K J5 [V.non, .int (-1), .int 5, .bl true] [.none, .int (-1), .int 5, .bool true] from .cons .non (.cons (.int _) (.cons (.int _) (.cons (.bl _) .nil)))) hj
      have hbt : betD d 0 4 = false := by
        have : ∀ d ∈ [PyData.none, .int (-1), .int 5, .bool true], betD d 0 4 = false := by decide
        exact this d (List.mem_of_getElem? hd)
      refine ⟨_, rfl, _, rfl, 1, .ref a, y, .non, .part "places", rfl, .inr (.inl ⟨rfl, .inr ⟨a, us, d, rfl, .inl (SqL.of (eH _ _ ha)), hn, hdv, hbt, rfl⟩⟩), fun t J6 e6 ht => ⟨by show 2 ≤ sizeLine; decide, fun l5 h_l5 => ?_⟩⟩
      have e_l5 := Ext.upd (o := .lst [.str "part", .str "places"]) h_l5
      have m_l5 : upd J6 l5 (.lst [.str "part", .str "places"]) l5 = some (.lst [.str "part", .str "places"]) := upd_same
      generalize upd J6 l5 (.lst [.str "part", .str "places"]) = J7 at e_l5 m_l5 ⊢
      refine ne_same (e_l5 _ _ ht) m_l5 (fl_p (by decide +kernel)) ⟨_, rfl, iteF ?_⟩
      have f7 := e6.trans e_l5
      refine ⟨_, rfl, _, rfl, 3, .ref m, y, .non, .part "places", rfl, .inr (.inr (.inl ⟨rfl, .inr (.inl ⟨m, ls, d, rfl, hM.ext (eH.trans f7), dp_ext f7 _ _ hdv, hbt, rfl⟩)⟩)), fun t J8 e8 ht => ⟨by show 2 ≤ sizeLine; decide, fun l6 h_l6 => ?_⟩⟩
      have e_l6 := Ext.upd (o := .lst [.str "part", .str "places"]) h_l6
      have m_l6 : upd J8 l6 (.lst [.str "part", .str "places"]) l6 = some (.lst [.str "part", .str "places"]) := upd_same
      generalize upd J8 l6 (.lst [.str "part", .str "places"]) = J9 at e_l6 m_l6 ⊢
      refine ne_same (e_l6 _ _ ht) m_l6 (fl_p (by decide +kernel)) ⟨_, rfl, iteF ?_⟩
      exact ⟨((e5.trans f7).trans e8).trans e_l6, _, _, rfl⟩
    obtain ⟨e5, o2', o3'', rfl⟩ := pv
    replace e := (e.trans e_l3).trans e5
    clear e_l3 m_l3 h_l3 e5
    refine ⟨by show 4 ≤ sizeLine; decide, fun l4 h_l4 => ?_⟩
    have e_l4 := Ext.upd (o := .lst [V.non, .int 1, .int 10, .bl true]) h_l4
    have m_l4 : upd J5 l4 (.lst [V.non, .int 1, .int 10, .bl true]) l4 = some (.lst [V.non, .int 1, .int 10, .bl true]) := upd_same
    generalize upd J5 l4 (.lst [V.non, .int 1, .int 10, .bl true]) = J6 at e_l4 m_l4 ⊢
    refine ⟨l4, rfl, ⟨_, SqL.of m_l4⟩, ?_⟩
    refine for_list (xs := [V.non, .int 1, .int 10, .bl true]) (fun j σ' J => Ext J6 J ∧ ∃ o2 o3, σ' = [some (.ref m), some (.ref a), o2, o3]) ⟨Ext.rfl', _, _, rfl⟩ (fun j σ' J _ pv => SqL.of (pv.1 _ _ m_l4)) (fun j y σ' J7 hj pv => ?_) (fun σ' J7 pv => ?_)
    · obtain ⟨e7, o2', o3', rfl⟩ := pv
      have eH := (e.trans e_l4).trans e7
      obtain ⟨d, hd, hdv⟩ := dps_get (K := K) (H := J7) (show DpAll K J7 [V.non, .int 1, .int 10, .bl true] [.none, .int 1, .int 10, .bool true] from .cons .non (.cons (.int _) (.cons (.int _) (.cons (.bl _) .nil)))) hj
      have hbt : betD d 2 9 = false := by
        have : ∀ d ∈ [PyData.none, .int 1, .int 10, .bool true], betD d 2 9 = false := by decide
        exact this d (List.mem_of_getElem? hd)
      refine ⟨_, rfl, _, rfl, 3, .ref m, .int 2, y, .part "cost", rfl, .inr (.inr (.inl ⟨rfl, .inr (.inr ⟨m, ls, 2, d, rfl, rfl, hM.ext eH, by decide, hdv, hbt, rfl⟩)⟩)), fun t J8 e8 ht => ⟨by show 2 ≤ sizeLine; decide, fun l5 h_l5 => ?_⟩⟩
      have e_l5 := Ext.upd (o := .lst [.str "part", .str "cost"]) h_l5
      have m_l5 : upd J8 l5 (.lst [.str "part", .str "cost"]) l5 = some (.lst [.str "part", .str "cost"]) := upd_same
      generalize upd J8 l5 (.lst [.str "part", .str "cost"]) = J9 at e_l5 m_l5 ⊢
      refine ne_same (e_l5 _ _ ht) m_l5 (fl_p (by decide +kernel)) ⟨_, rfl, iteF ?_⟩
      have f7 := e8.trans e_l5
      refine ⟨_, rfl, _, rfl, 6, .ref m, y, .non, .part "cost", rfl, .inr (.inr (.inr ⟨rfl, .inr (.inl ⟨m, ls, d, rfl, hM.ext (eH.trans f7), dp_ext f7 _ _ hdv, hbt, rfl⟩)⟩)), fun t J10 e10 ht => ⟨by show 2 ≤ sizeLine; decide, fun l6 h_l6 => ?_⟩⟩
      have e_l6 := Ext.upd (o := .lst [.str "part", .str "cost"]) h_l6
      have m_l6 : upd J10 l6 (.lst [.str "part", .str "cost"]) l6 = some (.lst [.str "part", .str "cost"]) := upd_same
      generalize upd J10 l6 (.lst [.str "part", .str "cost"]) = J11 at e_l6 m_l6 ⊢
      refine ne_same (e_l6 _ _ ht) m_l6 (fl_p (by decide +kernel)) ⟨_, rfl, iteF ?_⟩
      exact ⟨((e7.trans f7).trans e10).trans e_l6, _, _, rfl⟩
    obtain ⟨e7, o2', o3', rfl⟩ := pv
    replace e := (e.trans e_l4).trans e7
    refine ⟨_, rfl, _, rfl, 6, .ref m, .int 2, .int (-1), .part "most", rfl, .inr (.inr (.inr ⟨rfl, .inr (.inr ⟨m, ls, 2, .int (-1), rfl, rfl, hM.ext e, by decide, by decide, .int _, .inl rfl, rfl⟩)⟩)), fun t J8 e8 ht => ⟨by show 2 ≤ sizeLine; decide, fun l5 h_l5 => ?_⟩⟩
    have e_l5 := Ext.upd (o := .lst [.str "part", .str "most"]) h_l5
    have m_l5 : upd J8 l5 (.lst [.str "part", .str "most"]) l5 = some (.lst [.str "part", .str "most"]) := upd_same
    generalize upd J8 l5 (.lst [.str "part", .str "most"]) = J9 at e_l5 m_l5 ⊢
    refine eq_same (e_l5 _ _ ht) m_l5 (fl_p (by decide +kernel)) ⟨_, rfl, iteT ?_⟩
    have f9 := (e.trans e8).trans e_l5
    refine ⟨_, rfl, 6, .ref m, .int 9, .bl true, .part "most", rfl, .inr (.inr (.inr ⟨rfl, .inr (.inr ⟨m, ls, 9, .bool true, rfl, rfl, hM.ext f9, by decide, by decide, .bl _, .inr rfl, rfl⟩)⟩)), fun t J10 e10 ht => ⟨by show 2 ≤ sizeLine; decide, fun l6 h_l6 => ?_⟩⟩
    have e_l6 := Ext.upd (o := .lst [.str "part", .str "most"]) h_l6
    have m_l6 : upd J10 l6 (.lst [.str "part", .str "most"]) l6 = some (.lst [.str "part", .str "most"]) := upd_same
    generalize upd J10 l6 (.lst [.str "part", .str "most"]) = J11 at e_l6 m_l6 ⊢
    exact eq_same (e_l6 _ _ ht) m_l6 (fl_p (by decide +kernel)) (q _)
end
end K02

set_option Elab.async false
set_option maxRecDepth 100000
set_option maxHeartbeats 4000000
namespace K02
open PySem PySem.Spec PyProof.Rows L2
theorem near_mono {o : Option Nat} {n : Nat} (h : isNear o n = true) : isNear o (n + 1) = true := by
  cases o with
  | none => cases h
  | some d => exact decide_eq_true (Nat.lt_succ_of_lt (of_decide_eq_true h))
theorem shB_at {n : Nat} {us : List Str} {i : Nat} (h : i < us.length) : (shB n us)[i]? = some (isNear (distI us i) n) := by
  unfold shB
  rw [List.getElem?_map, List.getElem?_range h]; rfl
theorem fl_intsI {as : List Int} : ∀ v ∈ as.map V.int, Fl v := fun v hv => by
  obtain ⟨i, _, rfl⟩ := List.mem_map.mp hv
  trivial
theorem eqv_nilI (as : List Int) : PyData.eqvAll ((as.map V.int).map pd) (([] : List V).map pd) = decide (as = []) := by
  cases as with
  | nil => rfl
  | cons a as => exact (decide_eq_false (List.cons_ne_nil _ _)).symm
theorem eqD_lst {K : PySem.W.Frag} {H : Hp} {p q : Addr} {vs us : List V} {Q : VK} (hp : SqL K H p vs) (hq : SqL K H q us) (fv : ∀ v ∈ vs, Fl v) (fu : ∀ v ∈ us, Fl v) (h : Q (.bl (PyData.eqvAll (vs.map pd) (us.map pd))) H) : rEqD K (.ref p) (.ref q) H Q :=
  ⟨_, _, .lst hp (dp_all fv), .lst hq (dp_all fu), shp_lst fv, shp_lst fu, h⟩
theorem filter_all {zs : List Int} {most : Int} : decide (zs.filter (fun z => decide (z > most)) = []) = zs.all fun z => decide (z ≤ most) := by
  rw [Bool.eq_iff_iff, decide_eq_true_eq, List.filter_eq_nil_iff, List.all_eq_true]
  exact ⟨fun h z hz => decide_eq_true (by have := h z hz; rw [decide_eq_true_eq] at this; omega), fun h z hz => by have := of_decide_eq_true (h z hz); rw [decide_eq_true_eq]; omega⟩
theorem head_find {p : Nat → Bool} {n : Nat} : ((List.range n).filter p).head? = (List.range n).find? p := by
  rw [List.head?_filter]
theorem eq_oV {K : PySem.W.Frag} {H : Hp} {o : Option Nat} {Q : VK} (q : Q (.bl true) H) : rEqD K (oV o) (oV o) H Q := by
  cases o with
  | none => exact ⟨.none, .none, .non, .non, rfl, rfl, q⟩
  | some j =>
    refine ⟨.int (j : Int), .int (j : Int), .int _, .int _, rfl, rfl, ?_⟩
    rw [show PyData.eqv (.int (j : Int)) (.int (j : Int)) = true from beq_self_eq_true _]
    exact q
section
variable {P : Program} {w : World} {K : PySem.W.Frag} {mg : Str → Option Value} {base : Heap} {A : Ad}
def spPlRight (K : PySem.W.Frag) (A : Ad) : Sp := fun vs H Q _ => ∃ (m l a : Addr) (zs : List V) (ls : List (List Str × Int)) (c most : Int), vs = [.ref m, .ref l, .ref a, .int c, .int most] ∧ MlAt K A H m ls ∧ LsAt K H l zs ls ∧ SqL K H a ((hds ls).map V.str) ∧ 2 ≤ c ∧ c ≤ 9 ∧ 0 ≤ most ∧ ∀ H', Ext H H' → Q (.bl true) H'
theorem ok_plRight {f : Addr} {fd : FuncData} (F : Fun K "_law_places_right" "_law_places_right" s__law_places_right f fd) (T : Txt K mg A) (O__law_shorts : Own P w K mg base CX0 "_law_shorts" 2 pm__law_shorts (spLShorts K)) (O__law_lengths : Own P w K mg base CX0 "_law_lengths" 3 pm__law_lengths (spLLens K)) (O_places_for : Own P w K mg base (L2.CX P w) "places_for" 10 pm_places_for (spPlacesFor K A)) : FnOk P w K mg base CX0 11 f fd pm__law_places_right (spPlRight K A) := by
  refine F.ok sc__law_places_right (fun vs H Q E h => ?_) (fun cdv A' outer sh H vs Q E hr h => ?_)
  · obtain ⟨_, _, _, _, _, _, _, rfl, _⟩ := h
    rfl
  · obtain ⟨m, l, a, zs, ls, c, most, rfl, hM, hL, ha, hc2, hc9, h0, q⟩ := h
    refine ⟨_, pss_cons (ps_setLc (i := 5) (own := [("_law_places", 8)]) (g := gName 8) (by rfl) sc__law_places_right.nd rfl rfl (sw_true rfl rfl rfl (by decide +kernel)) (pi_range1 rfl T.n_range (pa_cons (pe_int) pa_nil)) (blkOk_by (own := [("_law_places", 8)]) (N := nm__law_places_right) (sc := defScope s__law_places_right) (by decide +kernel)) (fun _ _ _ _ _ => pg_name (i := 8) sc__law_places_right.nd rfl (Or.inl rfl)) (fun s1 H1 C1 cl fp => pts_nil) (fun s1 H1 C1 cl fp => pe_own O__law_shorts (hr.mono (by decide)) pass0 (pa_cons (pv 2) (pa_cons (pv 8) pa_nil))))
      (pss_cons (ps_for PassesOwn.never rfl (pi_range1 rfl T.n_range (pa_cons (pe_int) pa_nil)) (pg_name (i := 6) sc__law_places_right.nd rfl (Or.inl rfl)) (pss_one (ps_if (pt_cmpR (op_neD hr.units) (pe_lc (own := [("_law_one", 9), ("_law_other", 10)]) (g := gTup K 2 (gCons (gName 9) (gCons (gName 10) (gNil)))) (by rfl) sc__law_places_right.nd (RZ.pi_zipA (by rfl) T.n_zip (pa_cons (pe_ix ix_list (pv 5) (pv 6) (fun _ _ => rfl)) (pa_cons (pe_ix ix_list (pv 5) (pe_op op_add (pv 6) (pe_int)) (fun _ _ => rfl)) pa_nil))) (blkOk_by (own := [("_law_one", 9), ("_law_other", 10)]) (N := nm__law_places_right) (sc := defScope s__law_places_right) (by decide +kernel)) (fun _ _ _ _ _ => pg_tup rfl (pgs_cons (pg_name (i := 9) sc__law_places_right.nd rfl (Or.inl rfl)) (pgs_cons (pg_name (i := 10) sc__law_places_right.nd rfl (Or.inl rfl)) (pgs_nil)))) (fun s1 H1 C1 cl fp => pts_one (PW.pt (pw_and (pt_truthK (K := K) rfl (pv 9) (by intro _; rfl)) (pw_and1 (pt_not (pt_truthK (K := K) rfl (pv 10) (by intro _; rfl))))))) (fun s1 H1 C1 cl fp => pe_int)) (pe_lst (pa_nil)) (nomark _)) (pss_one (ps_ret (pe_bl))) (pss_nil))))
      (pss_cons (ps_setLc (i := 7) (own := [("_law_at", 6)]) (g := gName 6) (by rfl) sc__law_places_right.nd rfl rfl (sw_true rfl rfl rfl (by decide +kernel)) (pi_range1 rfl T.n_range (pa_cons (pe_int) pa_nil)) (blkOk_by (own := [("_law_at", 6)]) (N := nm__law_places_right) (sc := defScope s__law_places_right) (by decide +kernel)) (fun _ _ _ _ _ => pg_name (i := 6) sc__law_places_right.nd rfl (Or.inl rfl)) (fun s1 H1 C1 cl fp => pts_one (pt_cmpR (op_eqDK (K := K) rfl hr.units) (pe_lc (own := [("_law_one", 9)]) (g := gName 9) (by rfl) sc__law_places_right.nd (pi_listK (K := K) rfl (pe_own O__law_lengths (hr.mono (by decide)) pass0 (pa_cons (pv 1) (pa_cons (pv 6) (pa_cons (pv 3) pa_nil))))) (blkOk_by (own := [("_law_one", 9)]) (N := nm__law_places_right) (by rfl)) (fun _ _ _ _ _ => pg_name (i := 9) sc__law_places_right.nd rfl (Or.inl rfl)) (fun s12 H12 C12 cl2 fp2 => pts_one (pt_cmpR op_gt (pv 9) (pv 4) (nomark _))) (fun s12 H12 C12 cl2 fp2 => pv 9)) (pe_lst (pa_nil)) (nomark _))) (fun s1 H1 C1 cl fp => pv 6))
      (pss_one (ps_ret (pe_cmpR (op_eqD hr.units) (pe_own O_places_for (hr.mono (by decide)) passL (pa_cons (pv 0) (pa_cons (pv 3) (pa_cons (pv 4) pa_nil)))) (pe_ifExp (pt_cmpR (op_neD hr.units) (pv 7) (pe_lst (pa_nil)) (nomark _)) (pe_ix ix_list (pv 7) (pe_int) (fun _ _ => rfl)) (pe_non)) (nomark _)))))), ?_⟩
    have hsm := hds_small fun p hp => (hL.good p hp).1
    have h18 := hL.few
    have hnm : ∀ u ∈ hds ls, nameS u = true := fun u hu => by
      obtain ⟨p, hp, hu⟩ := List.mem_flatMap.mp hu
      exact (hL.good p hp).2.1 u hu
    refine ⟨_, rfl, by decide, by decide, fun D hD => ?_⟩
    refine lc_range (lo := 0) (n := 5) (fun i J => ∃ ws, Ext H J ∧ J D = some (.lst ws) ∧ ws.length = i ∧ ∀ j, j < i → ∃ b, ws[j]? = some (.ref b) ∧ b ≠ D ∧ J b = some (.lst ((shB j (hds ls)).map V.bl))) ⟨[], Ext.upd hD, upd_same, rfl, fun j hj => absurd hj (Nat.not_lt_zero _)⟩ (fun i J hi pv => ?_) (fun J pv => ?_)
    · obtain ⟨ws, e, hDJ, hwl, hw⟩ := pv
      refine ⟨rfl, _, rfl, _, rfl, a, hds ls, i, by rw [Int.zero_add]; rfl, ha.ext e, hnm, by omega, by omega, fun B J2 e2 hBn hB => ?_⟩
      have hBD : B ≠ D := (ne_of_none hDJ hBn).symm
      refine ⟨ws, e2 _ _ hDJ, small_sz (by omega), ws ++ [.ref B], ext_mut (e.trans e2) hD, upd_same, by rw [List.length_append, hwl]; rfl, fun j hj => ?_⟩
      by_cases hji : j < i
      · obtain ⟨b, h1, h2, h3⟩ := hw j hji
        exact ⟨b, by rw [List.getElem?_append_left (by omega)]; exact h1, h2, by rw [upd_ne h2]; exact e2 _ _ h3⟩
      · obtain rfl : j = i := by omega
        exact ⟨B, by rw [List.getElem?_append_right (by omega), hwl, Nat.sub_self]; rfl, hBD, by rw [upd_ne hBD]; exact hB⟩
    obtain ⟨ws, e, hDJ, hwl, hw⟩ := pv
    refine ⟨_, rfl, by decide, by decide, ?_⟩
    refine for_range (lo := 0) (n := 4) (fun i σ' J2 => Ext J J2 ∧ ∃ o6, σ' = [some (.ref m), some (.ref l), some (.ref a), some (.int c), some (.int most), some (.ref D), o6, none, none, none, none]) ⟨Ext.rfl', _, rfl⟩ (fun i σ' J2 hi pv => ?_) (fun σ' J2 pv => ?_)
    · obtain ⟨e2, o6, rfl⟩ := pv
      obtain ⟨b1, h1, _, hb1⟩ := hw i (by omega)
      obtain ⟨b2, h2, _, hb2⟩ := hw (i + 1) (by omega)
      refine ⟨_, rfl, _, rfl, D, ws, (i : Int), .ref b1, rfl, by rw [Int.zero_add], SqL.of (e2 _ _ hDJ), atI_nat h1, _, rfl, _, rfl, _, _, rfl, rfl, D, ws, ((i + 1 : Nat) : Int), .ref b2, rfl, by rw [Int.zero_add]; rfl, SqL.of (e2 _ _ hDJ), atI_nat h2, b1, b2, _, _, rfl, .inl ⟨SqL.of (e2 _ _ hb1), SqL.of (e2 _ _ hb2), fun D2 hD2 => ?_⟩⟩
      have hll : ∀ j, ((shB j (hds ls)).map V.bl).length = (hds ls).length := fun j => by rw [List.length_map, shB_len]
      refine lc_it (walk_zip (K := K) (a := b1) (b := b2) (xs := (shB i (hds ls)).map V.bl) (ys := (shB (i + 1) (hds ls)).map V.bl) (n := (hds ls).length) (by rw [hll, hll, Nat.min_self])) (fun k J3 => Ext J2 J3 ∧ J3 D2 = some (.lst [])) ⟨Ext.upd hD2, upd_same⟩ (fun k J3 _ pv => ⟨SqL.of (pv.1 _ _ (e2 _ _ hb1)), SqL.of (pv.1 _ _ (e2 _ _ hb2))⟩) (fun k v J3 J4 hk pv y => ?_) (fun J3 pv => ?_)
      · obtain ⟨T1, x, y, rfl, hT, rfl, g1, g2⟩ := y
        have eT := Ext.upd (o := .tup [x, y]) hT
        replace g1 : ((shB i (hds ls)).map V.bl)[k]? = some x := g1
        replace g2 : ((shB (i + 1) (hds ls)).map V.bl)[k]? = some y := g2
        rw [List.getElem?_map, shB_at hk] at g1 g2
        cases g1
        cases g2
        refine ⟨T1, _, rfl, SqT.of upd_same, rfl, _, _, rfl, _, _, rfl, rfl, rfl, ?_⟩
        cases hb : isNear (distI (hds ls) k) i with
        | false =>
          rw [hb] at eT
          exact ⟨_, rfl, _, rfl, iteF (iteF ⟨pv.1.trans eT, eT _ _ pv.2⟩)⟩
        | true =>
          rw [hb, near_mono hb] at eT
          rw [near_mono hb]
          exact ⟨_, rfl, _, rfl, iteT ⟨_, rfl, _, rfl, iteF ⟨pv.1.trans eT, eT _ _ pv.2⟩⟩⟩
      · refine ⟨by decide, fun l3 h_l3 => ?_⟩
        have e_l3 := Ext.upd (o := .lst []) h_l3
        have m_l3 : upd J3 l3 (.lst []) l3 = some (.lst []) := upd_same
        generalize upd J3 l3 (.lst []) = J5 at e_l3 m_l3 ⊢
        refine neD_lst (vs := []) (us := []) (SqL.of (e_l3 _ _ pv.2)) (SqL.of m_l3) (fun _ h => nomatch h) (fun _ h => nomatch h) ⟨_, rfl, iteF ?_⟩
        exact ⟨(e2.trans pv.1).trans e_l3, _, rfl⟩
    obtain ⟨e2, o6, rfl⟩ := pv
    have e3 := e.trans e2
    refine ⟨_, rfl, by decide, by decide, ?_⟩
    refine lc_rgR (n := 5) (b := fun n => (lens (shB n (hds ls)) c ls 0).all fun z => decide (z ≤ most)) (f := nI) (by decide) (fun x => rfl) (fun n hn H' e' Q' q' => ?_) (fun n hn _ H' e' Q' q' => ⟨_, by rw [Int.zero_add]; rfl, q' _ Ext.rfl'⟩) (fun D7 H7 hD7 e7 hl7 => ?_)
    · have e4 := e3.trans e'
      refine ⟨_, rfl, _, rfl, _, rfl, l, zs, ls, n, c, by rw [Int.zero_add]; rfl, hL.ext e4, by omega, fun D0 H2 e5 hD0 hl0 => ⟨D0, rfl, ⟨_, SqL.of hl0⟩, fun D2 hD2 => ?_⟩⟩
      have hqz := fun J (eJ : Ext H2 J) => q' J (e5.trans eJ)
      rw [← filter_all] at hqz
      generalize hzs : lens (shB n (hds ls)) c ls 0 = ws2 at hl0 hqz
      have hwl2 : ws2.length ≤ 18 := by rw [← hzs, lens_len]; exact h18
      refine lc_list (xs := ws2.map V.int) (fun j J => Ext H2 J ∧ J D2 = some (.lst (((ws2.take j).filter fun z => decide (z > most)).map V.int))) ⟨Ext.upd hD2, upd_same⟩ (fun j J _ pv => SqL.of (pv.1 _ _ hl0)) (fun j x J hxj pv => ?_) (fun J pv => ?_)
      · rw [List.getElem?_map] at hxj
        obtain ⟨z, hz, rfl⟩ := Option.map_eq_some_iff.mp hxj
        have hjl := (List.getElem?_eq_some_iff.mp hz).1
        have h2 := pv.2
        have hle := List.length_filter_le (fun z => decide (z > most)) (ws2.take j)
        rw [List.length_take] at hle
        refine ⟨rfl, _, rfl, _, rfl, _, _, rfl, rfl, _, rfl, ?_⟩
        by_cases hg : z > most
        · rw [decide_eq_true hg]
          refine iteT ⟨_, rfl, _, h2, small_sz (by rw [List.length_map]; omega), ext_mut pv.1 hD2, ?_⟩
          rw [upd_same, L2.take_snoc hz, List.filter_append, List.map_append, List.filter_cons, if_pos (decide_eq_true hg)]; rfl
        · rw [decide_eq_false hg]
          refine iteF ⟨pv.1, ?_⟩
          rw [L2.take_snoc hz, List.filter_append, List.filter_cons, if_neg (by rw [decide_eq_true_eq]; exact hg), List.filter_nil, List.append_nil]
          exact h2
      · have h2 := pv.2
        rw [List.length_map, List.take_of_length_le (Nat.le_refl _)] at h2
        refine ⟨by decide, fun l3 h_l3 => ?_⟩
        have e_l3 := Ext.upd (o := .lst []) h_l3
        have m_l3 : upd J l3 (.lst []) l3 = some (.lst []) := upd_same
        generalize upd J l3 (.lst []) = J6 at e_l3 m_l3 ⊢
        refine eqD_lst (us := []) (SqL.of (e_l3 _ _ h2)) (SqL.of m_l3) fl_intsI (fun _ h => nomatch h) ⟨_, rfl, ?_⟩
        rw [eqv_nilI]
        exact hqz _ (pv.1.trans e_l3)
    · have e4 := e3.trans e7
      refine ⟨_, rfl, _, rfl, _, rfl, .inl ⟨m, ls, c, most, rfl, hM.ext e4, hc2, hc9, h0, fun H9 e9 => ?_⟩⟩
      have hl9 := e9 _ _ hl7
      have hpf : placesF ls c most = ((List.range 5).filter fun n => (lens (shB n (hds ls)) c ls 0).all fun z => decide (z ≤ most)).head? := head_find.symm
      rw [hpf]
      generalize ((List.range 5).filter fun n => (lens (shB n (hds ls)) c ls 0).all fun z => decide (z ≤ most)) = as at hl9 ⊢
      refine ⟨_, rfl, by decide, fun l5 h_l5 => ?_⟩
      have e_l5 := Ext.upd (o := .lst []) h_l5
      have m_l5 : upd H9 l5 (.lst []) l5 = some (.lst []) := upd_same
      generalize upd H9 l5 (.lst []) = H10 at e_l5 m_l5 ⊢
      refine neD_lst (us := []) (SqL.of (e_l5 _ _ hl9)) (SqL.of m_l5) fl_nats (fun _ h => nomatch h) ⟨_, rfl, ?_⟩
      rw [eqv_nil]
      have ez := (e4.trans e9).trans e_l5
      cases as with
      | nil => exact iteF (eq_oV (o := none) (q _ ez))
      | cons x as => exact iteT ⟨_, rfl, D7, _, (0 : Int), nI x, rfl, rfl, SqL.of (e_l5 _ _ hl9), atI_nat (j := 0) rfl, eq_oV (o := some x) (q _ ez)⟩
end
end K02

set_option Elab.async false
set_option maxRecDepth 100000
set_option maxHeartbeats 4000000
namespace K02
open PySem PySem.Spec PyProof.Rows L2
def Lay (n : Nat) (d : PyData) : Prop := d.canLay0 = true ∧ d.depth ≤ n
theorem lay_alls {n : Nat} : ∀ {ds : List PyData}, (∀ d ∈ ds, Lay n d) → PyData.canLayAll0 ds = true ∧ PyData.depthAll ds ≤ n
  | [], _ => ⟨rfl, Nat.zero_le _⟩
  | d :: ds, h => by
    obtain ⟨a1, a2⟩ := h d List.mem_cons_self
    obtain ⟨b1, b2⟩ := lay_alls (ds := ds) fun x hx => h x (List.mem_cons_of_mem _ hx)
    refine ⟨?_, ?_⟩
    · show (d.canLay0 && PyData.canLayAll0 ds) = true
      rw [a1, b1]; rfl
    · show max d.depth (PyData.depthAll ds) ≤ n
      omega
theorem Lay.list {n : Nat} {ds : List PyData} (h : ∀ d ∈ ds, Lay n d) : Lay (n + 1) (.list ds) := by
  obtain ⟨a, b⟩ := lay_alls h
  exact ⟨a, Nat.succ_le_succ b⟩
theorem Lay.shp {n : Nat} {d : PyData} (h : Lay n d) (hn : n ≤ 64 := by decide) : SeqAt.shaped d = true := by
  show (d.canLay0 && decide (d.depth ≤ 64)) = true
  rw [h.1, decide_eq_true (Nat.le_trans h.2 hn)]; rfl
theorem Lay.refl {n : Nat} {d : PyData} (h : Lay n d) : PyData.eqv d d = true := PySem.SeqAt.eqv_refl d h.1
theorem lay_int (i : Int) : Lay 0 (.int i) := ⟨rfl, Nat.le_refl _⟩
theorem lay_bool (i : Bool) : Lay 0 (.bool i) := ⟨rfl, Nat.le_refl _⟩
theorem lay_non : Lay 0 .none := ⟨rfl, Nat.le_refl _⟩
theorem ne_sameD {K : PySem.W.Frag} {H : Hp} {x y : V} {d : PyData} {n : Nat} {Q : VK} (hx : Dp K H x d) (hy : Dp K H y d) (l : Lay n d) (q : Q (.bl false) H) (hn : n ≤ 64 := by decide) : rNeD K x y H Q := by
  refine ⟨d, d, hx, hy, l.shp hn, l.shp hn, ?_⟩
  rw [l.refl]
  exact q
def Good3 (L : List (List PyData)) : Prop := 0 < L.length ∧ L.length ≤ 3 ∧ ∀ r ∈ L, 0 < r.length ∧ r.length ≤ 6 ∧ ∀ d ∈ r, letterD d = true ∧ SmL d
theorem Good3.ok {L : List (List PyData)} (g : Good3 L) {r : List PyData} (h : r ∈ L) {d : PyData} (hd : itemsD d = some r) : okRow d = true := by
  obtain ⟨a, b, c⟩ := g.2.2 r h
  unfold okRow
  rw [hd]
  show (r.all letterD && (decide (0 < r.length) && decide (r.length ≤ 6))) = true
  rw [decide_eq_true a, decide_eq_true b, List.all_eq_true.mpr fun d hd => (c d hd).1]; rfl
theorem dps_of {K : PySem.W.Frag} {H : Hp} : ∀ {vs : List V} {ds : List PyData}, vs.length = ds.length → (∀ (i : Nat) (d : PyData), ds[i]? = some d → ∃ v, vs[i]? = some v ∧ Dp K H v d) → DpAll K H vs ds
  | [], [], _, _ => .nil
  | [], _ :: _, h, _ => by cases h
  | _ :: _, [], h, _ => by cases h
  | v :: vs, d :: ds, h, hi => .cons (by obtain ⟨u, h1, h2⟩ := hi 0 d rfl; cases h1; exact h2) (dps_of (Nat.succ.inj h) fun i e he => hi (i + 1) e he)
theorem tk_m {K : PySem.W.Frag} {H H' : Hp} {st a : Addr} {xs : List V} (hst : PoolD H st) (x : ExtM st H H') (h : SqT K H a xs) : SqT K H' a xs := by
  obtain ⟨_, _, hs, _⟩ := hst
  exact sqT_mutL hs (fun y o hy ho => x y o hy ho) h
theorem tk_l {K : PySem.W.Frag} {H : Hp} {D a : Addr} {ys zs xs : List V} (hD : H D = some (.lst ys)) (h : SqT K H a xs) : SqT K (upd H D (.lst zs)) a xs := sqT_mutL hD (fun y o hy ho => by rw [upd_ne hy]; exact ho) h
theorem MailAt.keep {K : PySem.W.Frag} {A : Ad} {H H' : Hp} {m : Addr} {L : List (List PyData)} (h : MailAt K A H m L) (hm : ∀ o, H m = some o → H' m = some o) (tk : ∀ a xs, SqT K H a xs → SqT K H' a xs) : MailAt K A H' m L := by
  obtain ⟨dx, pr, pl, h1, h2, h3, h4⟩ := h
  obtain ⟨rs, hr, hra⟩ := tup_dp h2
  obtain ⟨ls, hl, hla⟩ := tup_dp h3
  exact ⟨dx, pr, pl, hm _ h1, .tup (tk _ _ hr) (rows_keep tk h4 hra), .tup (tk _ _ hl) (lets_keep tk (fun d hd => by
    obtain ⟨r, hr, hd⟩ := List.mem_flatten.mp hd
    exact h4 r hr d hd) hla), h4⟩
theorem MailAt.m {K : PySem.W.Frag} {A : Ad} {H H' : Hp} {m st : Addr} {L : List (List PyData)} (h : MailAt K A H m L) (hst : PoolD H st) (x : ExtM st H H') : MailAt K A H' m L := by
  obtain ⟨dx, pr, pl, h1, _⟩ := id h
  refine h.keep (fun o ho => x m o (fun z => ?_) ho) fun a xs => tk_m hst x
  obtain ⟨_, _, hs, _⟩ := hst
  rw [z, hs] at h1
  cases h1
structure RowsP (K : PySem.W.Frag) (st D : Addr) (H : Hp) (xs : List V) (L : List (List PyData)) : Prop where
  len : xs.length = L.length
  at_ : ∀ (i : Nat) (r : List PyData), L[i]? = some r → ∃ b ys, xs[i]? = some (.ref b) ∧ b ≠ D ∧ b ≠ st ∧ H b = some (.lst ys) ∧ DpAll K H ys r
  good : ∀ r ∈ L, 0 < r.length ∧ r.length ≤ 5 ∧ ∀ d ∈ r, letterD d = true ∧ SmL d
theorem RowsP.step {K : PySem.W.Frag} {st D : Addr} {H H' : Hp} {xs : List V} {L : List (List PyData)} (h : RowsP K st D H xs L) (kp : ∀ x o, x ≠ D → x ≠ st → H x = some o → H' x = some o) (tk : ∀ a us, SqT K H a us → SqT K H' a us) : RowsP K st D H' xs L :=
  ⟨h.len, fun i r hr => by
    obtain ⟨b, ys, h1, h2, h3, h4, h5⟩ := h.at_ i r hr
    exact ⟨b, ys, h1, h2, h3, kp _ _ h2 h3 h4, lets_keep tk (fun d hd => ((h.good r (List.mem_of_getElem? hr)).2.2 d hd).1) h5⟩, h.good⟩
theorem RowsP.ext {K : PySem.W.Frag} {st D : Addr} {H H' : Hp} {xs : List V} {L : List (List PyData)} (h : RowsP K st D H xs L) (e : Ext H H') : RowsP K st D H' xs L := h.step (fun x o _ _ ho => e x o ho) fun _ _ z => z.ext e
theorem RowsP.m {K : PySem.W.Frag} {st D : Addr} {H H' : Hp} {xs : List V} {L : List (List PyData)} (h : RowsP K st D H xs L) (hst : PoolD H st) (x : ExtM st H H') : RowsP K st D H' xs L := h.step (fun y o _ hy ho => x y o hy ho) fun _ _ => tk_m hst x
theorem RowsP.rows {K : PySem.W.Frag} {st D : Addr} {H : Hp} {xs : List V} {L : List (List PyData)} (h : RowsP K st D H xs L) : RowsIn K H xs L := ⟨h.len, fun i r hr => by
  obtain ⟨b, ys, h1, _, _, h4, h5⟩ := h.at_ i r hr
  exact ⟨b, ys, h1, .inl (SqL.of h4), h5⟩⟩
theorem RowsP.dps {K : PySem.W.Frag} {st D : Addr} {H : Hp} {xs : List V} {L : List (List PyData)} (h : RowsP K st D H xs L) : DpAll K H xs (L.map PyData.list) := dps_of (by rw [List.length_map, h.len]) fun i z hz => by
  rw [List.getElem?_map] at hz
  obtain ⟨r, hr, rfl⟩ := Option.map_eq_some_iff.mp hz
  obtain ⟨b, ys, h1, _, _, h4, h5⟩ := h.at_ i r hr
  exact ⟨.ref b, h1, .lst (SqL.of h4) h5⟩
theorem letD_of {hs : List Str} {b : Int} (h1 : ∀ h ∈ hs, nameS h = true) (h2 : hs.length ≤ 4) (b0 : 0 ≤ b) (b6 : b ≤ 60) : letterD (.tuple [.tuple (hs.map PyData.str), .int b]) = true ∧ SmL (.tuple [.tuple (hs.map PyData.str), .int b]) := by
  refine ⟨?_, fun hs' b' e x hx => ?_⟩
  · show (decide ((hs.map PyData.str).length ≤ 4) && ((hs.map PyData.str).all nameD && betD (.int b) 0 60)) = true
    rw [decide_eq_true (by rw [List.length_map]; exact h2), bet_int, decide_eq_true b0, decide_eq_true b6, List.all_eq_true.mpr fun x hx => by
      obtain ⟨u, hu, rfl⟩ := List.mem_map.mp hx
      exact h1 u hu]; rfl
  · injection e with e
    injection e with e1 e2
    injection e1 with e1
    rw [← e1] at hx
    obtain ⟨u, hu, rfl⟩ := List.mem_map.mp hx
    have := h1 u hu
    unfold nameS at this
    rw [Bool.and_eq_true, Bool.and_eq_true, decide_eq_true_eq, decide_eq_true_eq] at this
    show u.length ≤ 1000
    omega
theorem items_lst (L : List (List PyData)) : (L.map PyData.list).map itemsD = L.map some := by
  rw [List.map_map]; rfl
def oD : Option Nat → PyData | none => .none | some j => .int (j : Int)
theorem bls_dp {K : PySem.W.Frag} {H : Hp} : ∀ bs : List Bool, DpAll K H (bs.map V.bl) (bs.map PyData.bool)
  | [] => .nil
  | _ :: bs => .cons (.bl _) (bls_dp bs)
theorem ints_dp {K : PySem.W.Frag} {H : Hp} : ∀ bs : List Int, DpAll K H (bs.map V.int) (bs.map PyData.int)
  | [] => .nil
  | _ :: bs => .cons (.int _) (ints_dp bs)
theorem oVs_dp {K : PySem.W.Frag} {H : Hp} : ∀ os : List (Option Nat), DpAll K H (os.map oV) (os.map oD)
  | [] => .nil
  | none :: os => .cons .non (oVs_dp os)
  | some _ :: os => .cons (.int _) (oVs_dp os)
theorem dsV_map (us : List Str) : dsV us = ((List.range us.length).map (distI us)).map oV := by
  unfold dsV
  rw [List.map_map]; rfl
theorem lay_bls (bs : List Bool) : Lay 1 (.list (bs.map PyData.bool)) := Lay.list (n := 0) fun d hd => by
  obtain ⟨b, _, rfl⟩ := List.mem_map.mp hd
  exact lay_bool _
theorem lay_intsL (bs : List Int) : Lay 1 (.list (bs.map PyData.int)) := Lay.list (n := 0) fun d hd => by
  obtain ⟨b, _, rfl⟩ := List.mem_map.mp hd
  exact lay_int _
theorem lay_oDs (os : List (Option Nat)) : Lay 1 (.list (os.map oD)) := Lay.list (n := 0) fun d hd => by
  obtain ⟨b, _, rfl⟩ := List.mem_map.mp hd
  cases b
  · exact lay_non
  · exact lay_int _
theorem lens_nonneg {bs : List Bool} {c : Int} (hc : 0 ≤ c) : ∀ {ls : List (List Str × Int)} {k : Nat}, (∀ p ∈ ls, 0 ≤ p.2) → ∀ z ∈ lens bs c ls k, 0 ≤ z
  | [], _, _, z, h => nomatch h
  | p :: ls, k, hp, z, h => by
    rcases List.mem_cons.mp h with rfl | h
    · have h1 := hp p List.mem_cons_self
      have h2 : 0 ≤ (((bs.drop k).take p.1.length).map (costB c)).sum := by
        generalize (bs.drop k).take p.1.length = l
        induction l with
        | nil => exact Int.le_refl _
        | cons b l ih =>
          rw [List.map_cons, List.sum_cons]
          have : 0 ≤ costB c b := by cases b; exact hc; (show (0 : Int) ≤ 1; decide)
          omega
      omega
    · exact lens_nonneg hc (fun p hq => hp p (List.mem_cons_of_mem _ hq)) z h
theorem lt_let {p : List Str × Int} (h : p.1.length ≤ 4 ∧ (∀ u ∈ p.1, nameS u = true) ∧ 0 ≤ p.2 ∧ p.2 ≤ 60) : letterD (ltD p) = true := (letD_of h.2.1 h.1 h.2.2.1 h.2.2.2).1
theorem LsAt.m {K : PySem.W.Frag} {H H' : Hp} {st l : Addr} {zs : List V} {ls : List (List Str × Int)} (h : LsAt K H l zs ls) (hl : l ≠ st) (hst : PoolD H st) (x : ExtM st H H') : LsAt K H' l zs ls := ⟨x _ _ hl h.at_, lets_keep (fun a us => tk_m hst x) (fun d hd => by
  obtain ⟨p, hp, rfl⟩ := List.mem_map.mp hd
  exact lt_let (h.good p hp)) h.dp, h.few, h.good⟩
section
variable {P : Program} {w : World} {K : PySem.W.Frag} {mg : Str → Option Value} {base : Heap} {A : Ad}
theorem mk_mail {J : Hp} {v : V} {d : PyData} {ds : List PyData} {L : List (List PyData)} {x dx : Addr} {Q : VK} {E : XK} (hd : Dp K J v d) (hi : itemsD d = some ds) (hr : ds.map itemsD = L.map some) (g : Good3 L) (hx : J x = none) (hdx : J dx = none) (hne : dx ≠ x) (q : ∀ H', Ext J H' → MailAt K A H' x L → Q .non H') : spInitOk K A [.ref x, v] (upd (upd J dx (.own x)) x (.ins A.Mail dx [])) Q E := by
  have e3 : Ext J (upd (upd J dx (.own x)) x (.ins A.Mail dx [])) := (Ext.upd hdx).trans (Ext.upd (by rw [upd_ne hne.symm]; exact hx))
  have hlen : ds.length = L.length := by
    have := congrArg List.length hr
    rwa [List.length_map, List.length_map] at this
  have hrd : ∀ (ds : List PyData) (L : List (List PyData)), ds.map itemsD = L.map some → rowsD ds = L := fun ds => by
    induction ds with
    | nil => intro L h; cases L with
      | nil => rfl
      | cons _ _ => cases h
    | cons d ds ih => intro L h; cases L with
      | nil => cases h
      | cons r L =>
        injection h with h1 h2
        show (itemsD d).getD [] :: rowsD ds = r :: L
        rw [h1, ih L h2]; rfl
  refine ⟨x, dx, v, d, ds, rfl, upd_same, dp_ext e3 _ _ hd, hi, by rw [hlen]; exact g.1, by rw [hlen]; exact g.2.1, fun r hr' => ?_, fun H' hM hk => ?_⟩
  · have hm : itemsD r ∈ L.map some := by rw [← hr]; exact List.mem_map.mpr ⟨r, hr', rfl⟩
    obtain ⟨rs, hrs, e⟩ := List.mem_map.mp hm
    refine ⟨g.ok hrs e.symm, fun rs' h y hy => ?_⟩
    rw [← e] at h
    cases h
    exact ((g.2.2 rs hrs).2.2 y hy).2
  · rw [hrd ds L hr] at hM
    refine q H' (fun y o ho => ?_) hM
    exact hk y o (fun z => by rw [z, hx] at ho; cases ho) (e3 _ _ ho)
theorem MlAt.m {H H' : Hp} {m st : Addr} {ls : List (List Str × Int)} (h : MlAt K A H m ls) (hst : PoolD H st) (x : ExtM st H H') : MlAt K A H' m ls := by
  obtain ⟨L, h1, h2⟩ := h
  exact ⟨L, h1.m hst x, h2⟩
def spLaw (K : PySem.W.Frag) : Sp := fun vs H Q _ => ∃ (a : Addr) (ns : List Int), vs = [.ref a] ∧ SqL K H a (ns.map V.int) ∧ ns.length ≤ 63 ∧ ∀ H', Q (.bl true) H'
theorem ok_law {f : Addr} {fd : FuncData} (F : Fun K "law" "law" s_law f fd) (T : Txt K mg A) (O__law_pool : Own P w K mg base CX0 "_law_pool" 1 pm__law_pool (spPool K)) (O__law_draw : Own P w K mg base CX0 "_law_draw" 1 pm__law_draw spDraw) (O__law_heads : Own P w K mg base CX0 "_law_heads" 3 pm__law_heads spLHeads) (O__law_joined : Own P w K mg base CX0 "_law_joined" 1 pm__law_joined (spJoined K)) (O_Mail : OwnC P w K mg base (L2.CX P w) "Mail" A.Mail 7 pm_Mail_init (spInitOk K A))
    (O_shorts : Own P w K mg base (L2.CX P w) "shorts" 6 pm_shorts (spShorts K A)) (O__law_shorts : Own P w K mg base CX0 "_law_shorts" 2 pm__law_shorts (spLShorts K)) (O_distances : Own P w K mg base (L2.CX P w) "distances" 4 pm_distances (spDists K A)) (O__law_distances : Own P w K mg base CX0 "_law_distances" 1 pm__law_distances (spLDists K)) (O__law_lengths : Own P w K mg base CX0 "_law_lengths" 3 pm__law_lengths (spLLens K)) (O_letter_lengths : Own P w K mg base (L2.CX P w) "letter_lengths" 8 pm_letter_lengths (spLens K A))
    (O__law_places_right : Own P w K mg base CX0 "_law_places_right" 11 pm__law_places_right (spPlRight K A)) (O__law_odds_refused : Own P w K mg base CX0 "_law_odds_refused" 13 pm__law_odds_refused (spOddsRef K A)) : FnOk P w K mg base CX0 14 f fd pm_law (spLaw K) := by
  refine F.ok sc_law (fun vs H Q E h => ?_) (fun cdv A' outer sh H vs Q E hr h => ?_)
  · obtain ⟨_, _, rfl, _⟩ := h
    rfl
  · obtain ⟨sc, ns, rfl, hsc, hl, q⟩ := h
    refine ⟨_, pss_cons (ps_set (i := 1) sc_law.nd rfl (Or.inr rfl) (pe_own O__law_pool (hr.mono (by decide)) pass0 (pa_cons (pv 0) (pa_cons (pe_int) pa_nil))))
      (pss_cons (ps_asg (pe_tup (pa_cons (pe_lst (pa_nil)) (pa_cons (pe_op op_add (pe_int) (pe_own O__law_draw (hr.mono (by decide)) pass0 (pa_cons (pv 1) (pa_cons (pe_int) pa_nil)))) pa_nil))) (pg_tup rfl (pgs_cons (pg_name (i := 2) sc_law.nd rfl (Or.inl rfl)) (pgs_cons (pg_name (i := 3) sc_law.nd rfl (Or.inr rfl)) (pgs_nil)))))
      (pss_cons (ps_for PassesOwn.never rfl (pi_range1 rfl T.n_range (pa_cons (pe_op op_add (pe_int) (pe_own O__law_draw (hr.mono (by decide)) pass0 (pa_cons (pv 1) (pa_cons (pe_int) pa_nil)))) pa_nil)) (pg_name (i := 4) sc_law.nd rfl (Or.inl rfl)) (pss_cons (ps_setLc (i := 5) (own := [("_law_at", 15)]) (g := gName 15) (by rfl) sc_law.nd rfl rfl (sw_true rfl rfl rfl (by decide +kernel)) (pi_range1 rfl T.n_range (pa_cons (pe_op op_add (pe_int) (pe_own O__law_draw (hr.mono (by decide)) pass0 (pa_cons (pv 1) (pa_cons (pe_int) pa_nil)))) pa_nil)) (blkOk_by (own := [("_law_at", 15)]) (N := nm_law) (sc := defScope s_law) (by decide +kernel)) (fun _ _ _ _ _ => pg_name (i := 15) sc_law.nd rfl (Or.inl rfl)) (fun s1 H1 C1 cl fp => pts_nil) (fun s1 H1 C1 cl fp => pe_own O__law_draw (hr.mono (by decide)) pass0 (pa_cons (pv 1) (pa_cons (pe_int) pa_nil))))
      (pss_one (ps_expr (pe_bm PySem.F.plainAttrs_list PySem.F.slot_list_append PySem.F.type_list_append mt_append (pv 2) (pa_cons (pe_lc (own := [("_law_size", 16)]) (g := gName 16) (by rfl) sc_law.nd (pi_list (pv 5)) (blkOk_by (own := [("_law_size", 16)]) (N := nm_law) (sc := defScope s_law) (by decide +kernel)) (fun _ _ _ _ _ => pg_name (i := 16) sc_law.nd rfl (Or.inl rfl)) (fun s1 H1 C1 cl fp => pts_nil) (fun s1 H1 C1 cl fp => pe_tup (pa_cons (pe_callTy (call_tuple_ofK (K := K) rfl) (by rfl) T.n_tuple (by decide +kernel) (pa_cons (pe_own O__law_heads (hr.mono (by decide)) pass0 (pa_cons (pv 1) (pa_cons (pv 16) (pa_cons (pv 3) pa_nil)))) pa_nil)) (pa_cons (pe_own O__law_draw (hr.mono (by decide)) pass0 (pa_cons (pv 1) (pa_cons (pe_int) pa_nil))) pa_nil)))) pa_nil))))))
      (pss_cons (ps_par3 (i := 6) (j := 7) (l := 8) (by rfl) sc_law.nd rfl rfl rfl (by decide) (by decide) (by decide) rfl rfl rfl (pa_cons (pe_own O__law_joined (hr.mono (by decide)) pass0 (pa_cons (pv 2) pa_nil)) (pa_cons (pe_op op_add (pe_int) (pe_own O__law_draw (hr.mono (by decide)) pass0 (pa_cons (pv 1) (pa_cons (pe_int) pa_nil)))) (pa_cons (pe_own O__law_draw (hr.mono (by decide)) pass0 (pa_cons (pv 1) (pa_cons (pe_int) pa_nil))) pa_nil))) (by rfl))
      (pss_cons (ps_par (i := 9) (j := 10) (by rfl) sc_law.nd rfl rfl (by decide) rfl rfl (pa_cons (pe_new O_Mail (hr.mono (by decide)) passL (pa_cons (pv 2) pa_nil)) (pa_cons (pe_own O__law_joined (hr.mono (by decide)) pass0 (pa_cons (pe_lc (own := [("_law_letter", 17)]) (g := gName 17) (by rfl) sc_law.nd (pi_list (pv 6)) (blkOk_by (own := [("_law_letter", 17)]) (N := nm_law) (sc := defScope s_law) (by decide +kernel)) (fun _ _ _ _ _ => pg_name (i := 17) sc_law.nd rfl (Or.inl rfl)) (fun s1 H1 C1 cl fp => pts_nil) (fun s1 H1 C1 cl fp => pe_ix (ix_tupK (K := K) rfl) (pv 17) (pe_int) (fun _ _ => rfl))) pa_nil)) pa_nil)) (by rfl))
      (pss_cons (ps_par (i := 11) (j := 12) (by rfl) sc_law.nd rfl rfl (by decide) rfl rfl (pa_cons (pe_own O_shorts (hr.mono (by decide)) passL (pa_cons (pv 10) (pa_cons (pv 8) pa_nil))) (pa_cons (pe_own O__law_shorts (hr.mono (by decide)) pass0 (pa_cons (pv 10) (pa_cons (pv 8) pa_nil))) pa_nil)) (by rfl))
      (pss_cons (ps_if (PW.pt (pw_or (pt_cmpR (op_neD hr.units) (pv 11) (pv 12) (nomark _)) (pw_or1 (pt_cmpR (op_neD hr.units) (pe_own O_distances (hr.mono (by decide)) passL (pa_cons (pv 10) pa_nil)) (pe_own O__law_distances (hr.mono (by decide)) pass0 (pa_cons (pv 10) pa_nil)) (nomark _))))) (pss_one (ps_ret (pe_bl))) (pss_nil))
      (pss_cons (ps_if (pt_cmpR (op_neD hr.units) (pe_own O_shorts (hr.mono (by decide)) passL (pa_cons (pe_callTy call_tuple_of (by rfl) T.n_tuple (by decide +kernel) (pa_cons (pv 10) pa_nil)) (pa_cons (pv 8) pa_nil))) (pv 12) (nomark _)) (pss_one (ps_ret (pe_bl))) (pss_nil))
      (pss_cons (ps_set (i := 13) sc_law.nd rfl (Or.inl rfl) (pe_own O__law_lengths (hr.mono (by decide)) pass0 (pa_cons (pv 6) (pa_cons (pv 8) (pa_cons (pv 7) pa_nil)))))
      (pss_cons (ps_if (pt_cmpR (op_neD hr.units) (pe_own O_letter_lengths (hr.mono (by decide)) passL (pa_cons (pv 9) (pa_cons (pv 8) (pa_cons (pv 7) pa_nil)))) (pv 13) (nomark _)) (pss_one (ps_ret (pe_bl))) (pss_nil))
      (pss_cons (ps_for PassesOwn.never rfl (pi_list (pe_lst (pa_cons (pe_int) (pa_cons (pe_callB (cr_max rfl) (by rfl) T.n_max (by decide +kernel) (pa_cons (pe_lc (own := [("_law_one", 18)]) (g := gName 18) (by rfl) sc_law.nd (pi_list (pv 13)) (blkOk_by (own := [("_law_one", 18)]) (N := nm_law) (sc := defScope s_law) (by decide +kernel)) (fun _ _ _ _ _ => pg_name (i := 18) sc_law.nd rfl (Or.inl rfl)) (fun s1 H1 C1 cl fp => pts_nil) (fun s1 H1 C1 cl fp => pe_callTy call_int1 (by rfl) T.n_int (by decide +kernel) (pa_cons (pv 18) pa_nil))) pa_nil)) (pa_cons (pe_own O__law_draw (hr.mono (by decide)) pass0 (pa_cons (pv 1) (pa_cons (pe_int) pa_nil))) pa_nil))))) (pg_name (i := 14) sc_law.nd rfl (Or.inl rfl)) (pss_one (ps_if (pt_not (pt_val (pe_own O__law_places_right (hr.mono (by decide)) pass0 (pa_cons (pv 9) (pa_cons (pv 6) (pa_cons (pv 10) (pa_cons (pv 7) (pa_cons (pv 14) pa_nil)))))))) (pss_one (ps_ret (pe_bl))) (pss_nil))))
      (pss_one (ps_ret (pe_own O__law_odds_refused (hr.mono (by decide)) pass0 (pa_cons (pv 9) (pa_cons (pv 10) pa_nil))))))))))))))), ?_⟩
    refine ⟨_, rfl, sc, ns, 0, rfl, hsc, hl, by decide, fun st H1 e1 hst0 hst => ?_⟩
    refine ⟨by decide, fun D h_D => ?_⟩
    have e_D := Ext.upd (o := .lst []) h_D
    have m_D : upd H1 D (.lst []) D = some (.lst []) := upd_same
    generalize upd H1 D (.lst []) = H2 at e_D m_D ⊢
    have hDs := hst.new h_D
    replace hst := hst.ext e_D
    refine ⟨_, rfl, st, 5, rfl, hst, by decide, by decide, fun nm H3 nm0 nm5 hst3 x3 => ⟨_, _, rfl, rfl, by show 2 ≤ sizeLine; decide, fun t0 h_t0 => ?_⟩⟩
    obtain ⟨nm, rfl⟩ := Int.eq_ofNat_of_zero_le nm0
    have hD3 := x3 _ _ hDs m_D
    have e_t0 := Ext.upd (o := .tup [.ref D, .int (1 + (nm : Int))]) h_t0
    have m_t0 : upd H3 t0 (.tup [.ref D, .int (1 + (nm : Int))]) t0 = some (.tup [.ref D, .int (1 + (nm : Int))]) := upd_same
    generalize upd H3 t0 (.tup [.ref D, .int (1 + (nm : Int))]) = H4 at e_t0 m_t0 ⊢
    refine ⟨t0, _, rfl, SqT.of m_t0, rfl, _, _, rfl, _, _, rfl, rfl, ?_⟩
    replace hst := hst3.ext e_t0
    have hD4 := e_t0 _ _ hD3
    refine ⟨_, rfl, st, 3, rfl, hst, by decide, by decide, fun n H5 n0 n3 hst5 x5 => ⟨_, _, rfl, rfl, ?_⟩⟩
    refine ⟨_, rfl, by omega, by omega, ?_⟩
    have hD5 := x5 _ _ hDs hD4
    clear hst hst3 x3 m_D m_t0 e_t0 h_t0 hD3 hD4 e_D h_D hst0 e1 x5 hsc
    refine for_range (lo := 0) (n := ((1 + n : Int)).toNat) (fun i σ' J => ∃ xs L o4 o5, σ' = [some (.ref sc), some (.ref st), some (.ref D), some (.int (1 + (nm : Int))), o4, o5, none, none, none, none, none, none, none, none, none, none, none, none, none] ∧ PoolD J st ∧ J D = some (.lst xs) ∧ L.length = i ∧ RowsP K st D J xs L) ⟨[], [], _, _, rfl, hst5, hD5, rfl, rfl, fun i r h => (by cases h), fun r hr => (by cases hr)⟩ (fun i σ' J hi pv => ?_) (fun σ' J pv => ?_)
    · obtain ⟨xs, L, o4, o5, rfl, hp, hDx, hLi, hR⟩ := pv
      refine ⟨_, rfl, st, 4, rfl, hp, by decide, by decide, fun m J2 m0 m4 hp2 y2 => ⟨_, _, rfl, rfl, ?_⟩⟩
      refine ⟨_, rfl, by omega, by omega, fun D5 hD5 => ?_⟩
      have hD5s := hp2.new hD5
      refine lc_range (lo := 0) (n := ((1 + m : Int)).toNat) (fun j Jj => ∃ ss : List Nat, PoolD Jj st ∧ ExtM st J2 Jj ∧ Jj D5 = some (.lst (ss.map nI)) ∧ ss.length = j ∧ ∀ s ∈ ss, s ≤ 4) ⟨[], hp2.ext (Ext.upd hD5), Ext.m (Ext.upd hD5), upd_same, rfl, fun s hs => (by cases hs)⟩ (fun j Jj hj pv => ?_) (fun Jj pv => ?_)
      · obtain ⟨ss, hpj, yj, hDy, hsl, hs4⟩ := pv
        refine ⟨rfl, _, rfl, st, 5, rfl, hpj, by decide, by decide, fun s J3 s0 s5 hp3 y3 => ?_⟩
        obtain ⟨s, rfl⟩ := Int.eq_ofNat_of_zero_le s0
        refine ⟨_, y3 _ _ hD5s hDy, small_sz (by rw [List.length_map]; omega), ss ++ [s], ?_, fun x o hx ho => ?_, by rw [upd_same, List.map_append]; rfl, by rw [List.length_append, hsl]; rfl, fun z hz => ?_⟩
        · obtain ⟨pa, pb, hs, hb⟩ := hp3
          exact ⟨pa, pb, by rw [upd_ne hD5s.symm]; exact hs, hb⟩
        · rw [upd_ne (ne_of_none ho hD5)]
          exact y3 x o hx (yj x o hx ho)
        · rcases List.mem_append.mp hz with hz | hz
          · exact hs4 z hz
          · rw [List.mem_singleton.mp hz]; omega
      obtain ⟨ss, hpj, yj, hDy, hsl, hs4⟩ := pv
      have hDx2 := yj _ _ hDs (y2 _ _ hDs hDx)
      have hR2 := (hR.m hp y2).m hp2 yj
      have hD5D : D5 ≠ D := (ne_of_none (y2 _ _ hDs hDx) hD5).symm
      clear hp hp2 y2 yj hD5
      refine ⟨_, rfl, .inl ⟨rfl, _, SqL.of hDx2⟩, _, rfl, D5, rfl, ⟨_, SqL.of hDy⟩, fun D6 hD6 => ?_⟩
      have hD6s := hpj.new hD6
      have hD6D : D6 ≠ D := (ne_of_none hDx2 hD6).symm
      have hD65 : D6 ≠ D5 := (ne_of_none hDy hD6).symm
      refine lc_list (xs := ss.map nI) (fun j Jk => ∃ ys r, PoolD Jk st ∧ ExtM st Jj Jk ∧ Jk D6 = some (.lst ys) ∧ r.length = j ∧ DpAll K Jk ys r ∧ ∀ d ∈ r, letterD d = true ∧ SmL d) ⟨[], [], hpj.ext (Ext.upd hD6), Ext.m (Ext.upd hD6), upd_same, rfl, .nil, fun d hd => (by cases hd)⟩ (fun j Jk _ pv => by obtain ⟨_, _, _, e, _⟩ := pv; exact SqL.of (e _ _ hD5s hDy)) (fun j x Jk hxj pv => ?_) (fun Jk pv => ?_)
      · obtain ⟨ys, r, hpk, yk, hDz, hrj, hya, hgood⟩ := pv
        rw [List.getElem?_map] at hxj
        obtain ⟨s, hs, rfl⟩ := Option.map_eq_some_iff.mp hxj
        have hs4' := hs4 s (List.mem_of_getElem? hs)
        have hjl := (List.getElem?_eq_some_iff.mp hs).1
        have hyl := dps_len hya
        refine ⟨rfl, _, rfl, _, rfl, _, rfl, st, s, 1 + nm, rfl, hpk, by omega, by omega, by omega, fun Dh hs' H7 nDh hDh lhs hhs hst7 x7 => ⟨Dh, _, rfl, .inl ⟨SqL.of hDh, fun t h_t => ?_⟩⟩⟩
        have e_t := Ext.upd (o := .tup (hs'.map V.str)) h_t
        have m_t : upd H7 t (.tup (hs'.map V.str)) t = some (.tup (hs'.map V.str)) := upd_same
        generalize upd H7 t (.tup (hs'.map V.str)) = H8 at e_t m_t ⊢
        have hts := hst7.new h_t
        replace hst7 := hst7.ext e_t
        refine ⟨_, rfl, st, 20, rfl, hst7, by decide, by decide, fun b H9 b0 b20 hst9 x9 => ⟨by show 2 ≤ sizeLine; decide, fun t2 h_t2 => ?_⟩⟩
        have m_t9 := x9 _ _ hts m_t
        have e_t2 := Ext.upd (o := .tup [.ref t, .int b]) h_t2
        have m_t2 : upd H9 t2 (.tup [.ref t, .int b]) t2 = some (.tup [.ref t, .int b]) := upd_same
        generalize upd H9 t2 (.tup [.ref t, .int b]) = H10 at e_t2 m_t2 ⊢
        have xk : ExtM st Jk H10 := ((x7.trans (Ext.m e_t)).trans x9).trans (Ext.m e_t2)
        have hDz9 := xk _ _ hD6s hDz
        have hld := letD_of (hs := hs') (b := b) (fun u hu => five_ok u (hhs u hu)) (by omega) b0 (by omega)
        have hst10 := hst9.ext e_t2
        refine ⟨ys, hDz9, small_sz (by omega), ys ++ [.ref t2], r ++ [.tuple [.tuple (hs'.map PyData.str), .int b]], ?_, fun x o hx ho => ?_, upd_same, by rw [List.length_append, hrj]; rfl, ?_, fun d hd => ?_⟩
        · obtain ⟨pa, pb, hs, hb⟩ := hst10
          exact ⟨pa, pb, by rw [upd_ne hD6s.symm]; exact hs, hb⟩
        · rw [upd_ne (ne_of_none ho hD6)]
          exact xk x o hx (yk x o hx ho)
        · refine lets_keep (H := H10) (fun a us => tk_l hDz9) (fun d hd => ?_) (dps_snoc (.tup (SqT.of m_t2) (.cons (.tup (SqT.of (e_t2 _ _ m_t9)) str_dps) (.cons (.int _) .nil))) (lets_keep (fun a us => tk_m hpk xk) (fun d hd => (hgood d hd).1) hya))
          rcases List.mem_append.mp hd with hd | hd
          · exact (hgood d hd).1
          · rw [List.mem_singleton.mp hd]; exact hld.1
        · rcases List.mem_append.mp hd with hd | hd
          · exact hgood d hd
          · rw [List.mem_singleton.mp hd]; exact hld
      · obtain ⟨ys, r, hpk, yk, hDz, hrj, hya, hgood⟩ := pv
        rw [List.length_map] at hrj
        have hDxk := yk _ _ hDs hDx2
        have hRk := hR2.m hpj yk
        have hxl := hR.len
        refine ⟨D, _, _, rfl, rfl, hDxk, small_sz (by omega), xs ++ [.ref D6], L ++ [r], _, _, rfl, ?_, upd_same, by rw [List.length_append, hLi]; rfl, ?_⟩
        · obtain ⟨pa, pb, hs, hb⟩ := hpk
          exact ⟨pa, pb, by rw [upd_ne hDs.symm]; exact hs, hb⟩
        have hR3 : RowsP K st D (upd Jk D (.lst (xs ++ [.ref D6]))) xs L := hRk.step (fun x o hx _ ho => by rw [upd_ne hx]; exact ho) fun a us => tk_l hDxk
        refine ⟨by rw [List.length_append, List.length_append, hR.len]; rfl, fun i' r' hr' => ?_, fun r' hr' => ?_⟩
        · by_cases hi' : i' < L.length
          · rw [List.getElem?_append_left hi'] at hr'
            obtain ⟨b, ys', h1, h2⟩ := hR3.at_ i' r' hr'
            exact ⟨b, ys', by rw [List.getElem?_append_left (by omega)]; exact h1, h2⟩
          · rw [List.getElem?_append_right (by omega)] at hr'
            have h0 : i' - L.length = 0 := by
              have := (List.getElem?_eq_some_iff.mp hr').1
              have h4 : [r].length = 1 := rfl
              omega
            rw [h0] at hr'
            cases hr'
            exact ⟨D6, ys, by rw [List.getElem?_append_right (by omega), hxl, h0]; rfl, hD6D, hD6s, by rw [upd_ne hD6D]; exact hDz, lets_keep (fun a us => tk_l hDxk) (fun d hd => (hgood d hd).1) hya⟩
        · rcases List.mem_append.mp hr' with hr' | hr'
          · exact hR.good r' hr'
          · rw [List.mem_singleton.mp hr']
            exact ⟨by omega, by omega, hgood⟩
    obtain ⟨rs, L, o4, o5, rfl, hp, hDx, hLi, hR⟩ := pv
    have hL0 : 0 < L.length := by omega
    have hL3 : L.length ≤ 3 := by omega
    clear hst5 hD5 hLi
    have hlet : ∀ r ∈ L, ∀ d ∈ r, letterD d = true := fun r hr d hd => ((hR.good r hr).2.2 d hd).1
    have hfl : L.flatten.length ≤ 18 := by
      have := flat_len (L := L) fun r hr => Nat.le_succ_of_le (hR.good r hr).2.1
      omega
    have g3 : Good3 L := ⟨hL0, hL3, fun r hr => ⟨(hR.good r hr).1, Nat.le_succ_of_le (hR.good r hr).2.1, (hR.good r hr).2.2⟩⟩
    have hlets : ∀ d ∈ L.flatten, letterD d = true := fun d hd => by
      obtain ⟨r, hr, hd⟩ := List.mem_flatten.mp hd
      exact hlet r hr d hd
    obtain ⟨ls, hls, hgood⟩ := let_ltD hlets
    have hls0 : 0 < ls.length := by
      have h1 : 0 < (L[0]'hL0).length := (hR.good _ (List.getElem_mem hL0)).1
      have h2 : (L[0]'hL0).length ≤ L.flatten.length := by
        cases L with
        | nil => cases hL0
        | cons r L => rw [List.flatten_cons, List.length_append]; exact Nat.le_add_right _ _
      have h3 := congrArg List.length hls
      rw [List.length_map] at h3
      omega
    have hls18 : ls.length ≤ 18 := by
      have h3 := congrArg List.length hls
      rw [List.length_map] at h3
      omega
    -- letters, cost, places
    refine ⟨_, rfl, D, rs, L, rfl, SqL.of hDx, hR.rows, by omega, fun l zs J1 e1 hln hl1 hzs => ?_⟩
    have hlns := hp.new hln
    rw [hls] at hzs
    have hLS : LsAt K J1 l zs ls := ⟨hl1, hzs, hls18, hgood⟩
    replace hp := hp.ext e1
    replace hR := hR.ext e1
    replace hDx := e1 _ _ hDx
    clear e1 hln hl1 hzs
    refine ⟨_, rfl, st, 8, rfl, hp, by decide, by decide, fun c0 J2 c00 c08 hp2 x2 => ⟨_, _, rfl, rfl, ?_⟩⟩
    refine ⟨_, rfl, st, 5, rfl, hp2, by decide, by decide, fun pn J3 pn0 pn5 hp3 x3 => ⟨_, _, _, rfl, ?_⟩⟩
    obtain ⟨pn, rfl⟩ := Int.eq_ofNat_of_zero_le pn0
    have x23 := x2.trans x3
    replace hLS := hLS.m hlns hp x23
    replace hR := hR.m hp x23
    replace hDx := x23 _ _ hDs hDx
    replace hp := hp3
    have hc2 : (2 : Int) ≤ 2 + c0 := by omega
    have hc9 : 2 + c0 ≤ (9 : Int) := by omega
    have hpn4 : pn ≤ 4 := by omega
    clear x23 x2 x3 hp2 hp3 c00 c08
    -- the mail and its heads
    refine ⟨_, rfl, fun m dn hm0 hdn hne => mk_mail (.lst (SqL.of hDx) hR.dps) rfl (items_lst L) g3 hm0 hdn hne fun J4 e4 hMA => ⟨rfl, ?_⟩⟩
    have hM : MlAt K A J4 m ls := ⟨L, hMA, hls, hls18, hgood⟩
    replace hp := hp.ext e4
    replace hLS := hLS.ext e4
    clear hm0 hdn hne hMA e4 hR hDx
    have hnm : ∀ u ∈ hds ls, nameS u = true := fun u hu => by
      obtain ⟨p, hp, hu⟩ := List.mem_flatMap.mp hu
      exact (hgood p hp).2.1 u hu
    have hsm := hds_small fun p hp => (hgood p hp).1
    have hzl := hLS.len
    refine ⟨_, rfl, l, rfl, ⟨_, SqL.of hLS.at_⟩, fun D2 hD2 => ?_⟩
    refine lc_list (xs := zs) (fun i J => ∃ ws, Ext J4 J ∧ J D2 = some (.lst ws) ∧ ws.length = i ∧ ∀ (j : Nat) (p : List Str × Int), j < i → ls[j]? = some p → ∃ a, ws[j]? = some (.ref a) ∧ SqT K J4 a (p.1.map V.str)) ⟨[], Ext.upd hD2, upd_same, rfl, fun j p hj => absurd hj (Nat.not_lt_zero _)⟩ (fun i J _ pv => by obtain ⟨_, e, _⟩ := pv; exact SqL.of (e _ _ hLS.at_)) (fun i x J hxi pv => ?_) (fun J pv => ?_)
    · obtain ⟨ws, e, hDJ, hwl, hw⟩ := pv
      obtain ⟨d, hdi, hdv⟩ := dps_get hLS.dp hxi
      rw [List.getElem?_map] at hdi
      obtain ⟨p, hp', rfl⟩ := Option.map_eq_some_iff.mp hdi
      obtain ⟨t, a, rfl, ht, ha⟩ := lt_at hdv
      have hil := (List.getElem?_eq_some_iff.mp hp').1
      refine ⟨rfl, _, rfl, t, _, (0 : Int), .ref a, rfl, rfl, ht.ext e, atI_nat (j := 0) rfl, ws, hDJ, small_sz (by omega), ws ++ [.ref a], ext_mut e hD2, upd_same, by rw [List.length_append, hwl]; rfl, fun j p' hj hp2 => ?_⟩
      by_cases hji : j < i
      · obtain ⟨a', h1, h2⟩ := hw j p' hji hp2
        exact ⟨a', by rw [List.getElem?_append_left (by omega)]; exact h1, h2⟩
      · obtain rfl : j = i := by omega
        rw [hp'] at hp2
        cases hp2
        exact ⟨a, by rw [List.getElem?_append_right (by omega), hwl, Nat.sub_self]; rfl, ha⟩
    obtain ⟨ws, e, hDJ, hwl, hw⟩ := pv
    refine ⟨D2, ws, ls.map fun p => p.1.map PyData.str, rfl, SqL.of hDJ, ⟨by rw [List.length_map, hwl, hzl], fun i r hir => ?_⟩, by rw [hds_rows, List.length_map]; omega, fun hh us2 H2 e2 hjn hj hus => ⟨_, _, rfl, ?_⟩⟩
    · rw [List.getElem?_map] at hir
      obtain ⟨p, hp', rfl⟩ := Option.map_eq_some_iff.mp hir
      obtain ⟨a, h1, h2⟩ := hw i p (by have := (List.getElem?_eq_some_iff.mp hp').1; omega) hp'
      exact ⟨a, _, h1, .inr (h2.ext e), str_dps⟩
    rw [hds_rows] at hus
    have hue := dps_str hus
    subst hue
    have e42 := e.trans e2
    have hhs : hh ≠ st := (hp.ext e).new hjn
    replace hp := hp.ext e42
    replace hLS := hLS.ext e42
    replace hM := hM.ext e42
    clear e e2 e42 hDJ hw hwl hD2 hus hjn
    have h300 : (hds ls).length ≤ 300 := by omega
    -- shorts
    refine ⟨_, rfl, _, rfl, .inl ⟨hh, hds ls, pn, rfl, .inl (SqL.of hj), hnm, h300, hpn4, fun t1 H3 e3 ht1n ht1 => ?_⟩⟩
    refine ⟨_, rfl, _, rfl, hh, hds ls, pn, rfl, SqL.of (e3 _ _ hj), hnm, hpn4, h300, fun t2 H4 e4 ht2n ht2 => ⟨_, _, rfl, ?_⟩⟩
    have e34 := e3.trans e4
    refine ⟨_, rfl, _, rfl, ne_sameD (.lst (SqL.of (e4 _ _ ht1)) (bls_dp _)) (.lst (SqL.of ht2) (bls_dp _)) (lay_bls _) ⟨_, rfl, iteF ?_⟩⟩
    refine ⟨_, rfl, .inl ⟨hh, hds ls, rfl, .inl (SqL.of (e34 _ _ hj)), hnm, h300, fun t3 H5 e5 ht3n ht3 => ?_⟩⟩
    refine ⟨_, rfl, hh, hds ls, rfl, SqL.of ((e34.trans e5) _ _ hj), h300, fun t4 H6 e6 ht4n ht4 => ?_⟩
    rw [dsV_map] at ht3 ht4
    refine ne_sameD (.lst (SqL.of (e6 _ _ ht3)) (oVs_dp _)) (.lst (SqL.of ht4) (oVs_dp _)) (lay_oDs _) ⟨_, rfl, iteF ?_⟩
    have e46 := e5.trans e6
    have hj6 := (e34.trans e46) _ _ hj
    refine ⟨_, rfl, hh, _, rfl, .inl ⟨SqL.of hj6, fun t5 h_t5 => ?_⟩⟩
    have e_t5 := Ext.upd (o := .tup ((hds ls).map V.str)) h_t5
    have m_t5 : upd H6 t5 (.tup ((hds ls).map V.str)) t5 = some (.tup ((hds ls).map V.str)) := upd_same
    generalize upd H6 t5 (.tup ((hds ls).map V.str)) = H7 at e_t5 m_t5 ⊢
    refine ⟨_, rfl, .inl ⟨t5, hds ls, pn, rfl, .inr (SqT.of m_t5), hnm, h300, hpn4, fun t6 H8 e8 ht6n ht6 => ?_⟩⟩
    have e48 := (e46.trans e_t5).trans e8
    refine ⟨_, rfl, ne_sameD (.lst (SqL.of ht6) (bls_dp _)) (.lst (SqL.of (e48 _ _ ht2)) (bls_dp _)) (lay_bls _) ⟨_, rfl, iteF ?_⟩⟩
    have e28 := e34.trans e48
    replace hp := hp.ext e28
    replace hLS := hLS.ext e28
    replace hM := hM.ext e28
    replace hj := e28 _ _ hj
    clear e3 e4 e34 e5 e6 e46 e_t5 e8 e48 e28 ht1 ht1n ht2 ht2n ht3 ht3n ht4 ht4n ht6 ht6n hj6 m_t5 h_t5
    -- lengths
    refine ⟨_, rfl, _, rfl, _, rfl, l, zs, ls, pn, 2 + c0, rfl, hLS, hpn4, fun t1 H3 e3 ht1n ht1 => ?_⟩
    have ht1s := hp.new ht1n
    refine ⟨_, rfl, _, rfl, _, rfl, .inl ⟨m, ls, pn, 2 + c0, rfl, hM.ext e3, hpn4, hc2, hc9, fun t2 H4 e4 ht2n ht2 => ?_⟩⟩
    refine ⟨_, rfl, ne_sameD (.lst (SqL.of ht2) (ints_dp _)) (.lst (SqL.of (e4 _ _ ht1)) (ints_dp _)) (lay_intsL _) ⟨_, rfl, iteF ?_⟩⟩
    have e34 := e3.trans e4
    replace hp := hp.ext e34
    replace hLS := hLS.ext e34
    replace hM := hM.ext e34
    replace hj := e34 _ _ hj
    replace ht1 := e4 _ _ ht1
    clear e3 e4 e34 ht1n ht2n ht2
    generalize hlz : lens (shB pn (hds ls)) (2 + c0) ls 0 = lz at ht1
    have hlzl : lz.length = ls.length := by rw [← hlz, lens_len]
    have hlz0 : ∀ z ∈ lz, 0 ≤ z := by
      rw [← hlz]
      exact lens_nonneg (by omega) fun p hp => (hgood p hp).2.2.1
    refine ⟨_, rfl, t1, rfl, ⟨_, SqL.of ht1⟩, fun D3 hD3 => ?_⟩
    refine lc_list (xs := lz.map V.int) (fun i J => Ext H4 J ∧ J D3 = some (.lst ((lz.take i).map V.int))) ⟨Ext.upd hD3, upd_same⟩ (fun i J _ pv => SqL.of (pv.1 _ _ ht1)) (fun i x J hxi pv => ?_) (fun J pv => ?_)
    · rw [List.getElem?_map] at hxi
      obtain ⟨z, hz, rfl⟩ := Option.map_eq_some_iff.mp hxi
      have hil := (List.getElem?_eq_some_iff.mp hz).1
      refine ⟨rfl, _, rfl, .inl ⟨z, rfl, _, pv.2, small_sz (by rw [List.length_map, List.length_take]; omega), ext_mut pv.1 hD3, ?_⟩⟩
      rw [upd_same, L2.take_snoc hz, List.map_append]; rfl
    obtain ⟨e5, hD5⟩ := pv
    rw [List.length_map, List.take_of_length_le (Nat.le_refl _)] at hD5
    replace hp := hp.ext e5
    replace hLS := hLS.ext e5
    replace hM := hM.ext e5
    replace hj := e5 _ _ hj
    refine ⟨D3, lz, rfl, SqL.of hD5, by omega, fun mx hmx _ => ?_⟩
    have hmx0 := hlz0 mx hmx
    refine ⟨_, rfl, st, 40, rfl, hp, by decide, by decide, fun dr H6 dr0 dr40 hp6 x6 => ⟨by show 3 ≤ sizeLine; decide, fun l5 h_l5 => ?_⟩⟩
    replace hLS := hLS.m hlns hp x6
    replace hM := hM.m hp x6
    replace hj := x6 _ _ hhs hj
    have e_l5 := Ext.upd (o := .lst [.int 0, .int mx, .int dr]) h_l5
    have m_l5 : upd H6 l5 (.lst [.int 0, .int mx, .int dr]) l5 = some (.lst [.int 0, .int mx, .int dr]) := upd_same
    generalize upd H6 l5 (.lst [.int 0, .int mx, .int dr]) = H7 at e_l5 m_l5 ⊢
    replace hLS := hLS.ext e_l5
    replace hM := hM.ext e_l5
    replace hj := e_l5 _ _ hj
    refine ⟨l5, rfl, ⟨_, SqL.of m_l5⟩, ?_⟩
    clear hp hp6 x6 hD5 hD3 e5 ht1 e_l5 h_l5
    refine for_list (xs := [V.int 0, .int mx, .int dr]) (fun i σ' J => Ext H7 J ∧ ∃ o14, σ' = [some (.ref sc), some (.ref st), some (.ref D), some (.int (1 + (nm : Int))), o4, o5, some (.ref l), some (.int (2 + c0)), some (.int (pn : Int)), some (.ref m), some (.ref hh), some (.ref _), some (.ref _), some (.ref t1), o14, none, none, none, none]) ⟨Ext.rfl', _, rfl⟩ (fun i σ' J _ pv => SqL.of (pv.1 _ _ m_l5)) (fun i x σ' J hi pv => ?_) (fun σ' J pv => ?_)
    · obtain ⟨e, o14, rfl⟩ := pv
      have hx : ∃ mo : Int, x = .int mo ∧ 0 ≤ mo := by
        rcases i with _ | _ | _ | i
        · cases hi; exact ⟨0, rfl, Int.le_refl _⟩
        · cases hi; exact ⟨mx, rfl, hmx0⟩
        · cases hi; exact ⟨dr, rfl, dr0⟩
        · cases hi
      obtain ⟨mo, rfl, hmo⟩ := hx
      exact ⟨_, rfl, _, rfl, _, rfl, _, rfl, _, rfl, m, l, hh, zs, ls, 2 + c0, mo, rfl, hM.ext e, hLS.ext e, SqL.of (e _ _ hj), hc2, hc9, hmo, fun J2 e2 => ⟨_, rfl, iteF ⟨e.trans e2, _, rfl⟩⟩⟩
    · obtain ⟨e, o14, rfl⟩ := pv
      exact ⟨_, rfl, _, rfl, m, hh, ls, hds ls, rfl, hM.ext e, e _ _ hj, hnm, h300, fun H' => q H'⟩
end
end K02

set_option Elab.async false
set_option maxRecDepth 100000
set_option maxHeartbeats 4000000
namespace K05
open PySem PySem.Spec PyProof.Rows L2 K02
section
variable {P : Program} {w : World} {K : PySem.W.Frag} {mg : Str → Option Value} {base : Heap} {A : Ad}
theorem kit_ref {B C : Addr} {b : Bool} (i : PySem.W.isClsIn K C = true) (t : PySem.W.typeIn K (.ref C) = some (.type "type")) (s : PySem.W.subIn K (.ref B) (.ref C) = some b) (ss : PySem.W.subIn K (.ref B) (.ref B) = some true) : PySem.W.kitOne K (.ref B) (.ref C) = some b := by
  by_cases h : B = C
  · subst h
    rw [ss] at s
    cases s
    exact if_pos (beq_self_eq_true _)
  · have e : ((PySem.W.clsIn K C).isSome && PySem.W.typeIn K (.ref C) == some (.type "type")) = true := by
      have h1 : (PySem.W.clsIn K C).isSome = true := i
      rw [h1, t]
      rfl
    show (if (Value.ref B == Value.ref C) = true then some true else if ((PySem.W.clsIn K C).isSome && PySem.W.typeIn K (.ref C) == some (.type "type")) = true then PySem.W.subIn K (.ref B) (.ref C) else none) = some b
    rw [if_pos e]
    have hne : ¬ ((Value.ref B == Value.ref C) = true) := fun z => by
      have z' := eq_of_beq z
      injection z' with z'
      exact h z'
    rw [if_neg hne]
    exact s
theorem exm_ref {B C : Addr} {b : Bool} (x : PySem.W.subIn K (.ref C) (.type "BaseException") = some true) (i : PySem.W.isClsIn K C = true) (t : PySem.W.typeIn K (.ref C) = some (.type "type")) (s : PySem.W.subIn K (.ref B) (.ref C) = some b) : PySem.W.exmOne K (.ref B) (.ref C) = some b := by
  unfold PySem.W.exmOne PySem.W.kitCls
  have i' : (PySem.W.clsIn K C).isSome = true := i
  rw [x]
  dsimp only
  rw [i', t, s]
  rfl
theorem ve_one {W : Addr} : PySem.HandSPX.refsVE [.ref W, .type "ValueError", .type "Exception", .type "BaseException", .type "object"] = true := by
  show PySem.HandSPX.refsVE [.type "ValueError", .type "Exception", .type "BaseException", .type "object"] = true
  decide +kernel
theorem law_ok (T : Txt K mg A) (D_is_integer : DefAt K mg "is_integer" s_is_integer pm_is_integer) (D_is_between : DefAt K mg "is_between" s_is_between pm_is_between) (D_is_index : DefAt K mg "is_index" s_is_index pm_is_index) (D_is_list : DefAt K mg "is_list" s_is_list pm_is_list) (D_is_name : DefAt K mg "is_name" s_is_name pm_is_name) (D_is_tuple_of : DefAt K mg "is_tuple_of" s_is_tuple_of pm_is_tuple_of) (D_is_letter : DefAt K mg "is_letter" s_is_letter pm_is_letter) (D_check_heads : DefAt K mg "check_heads" s_check_heads pm_check_heads) (D_check_row : DefAt K mg "check_row" s_check_row pm_check_row) (D_check_places : DefAt K mg "check_places" s_check_places pm_check_places) (D_check_mail : DefAt K mg "check_mail" s_check_mail pm_check_mail) (D_check_cost : DefAt K mg "check_cost" s_check_cost pm_check_cost) (D_distances : DefAt K mg "distances" s_distances pm_distances) (D_distance_at : DefAt K mg "distance_at" s_distance_at pm_distance_at) (D_shorts : DefAt K mg "shorts" s_shorts pm_shorts) (D_is_near : DefAt K mg "is_near" s_is_near pm_is_near) (D_letter_lengths : DefAt K mg "letter_lengths" s_letter_lengths pm_letter_lengths) (D_places_for : DefAt K mg "places_for" s_places_for pm_places_for) (D__law_pool : DefAt K mg "_law_pool" s__law_pool pm__law_pool) (D__law_draw : DefAt K mg "_law_draw" s__law_draw pm__law_draw) (D__law_pick : DefAt K mg "_law_pick" s__law_pick pm__law_pick) (D__law_heads : DefAt K mg "_law_heads" s__law_heads pm__law_heads) (D__law_used : DefAt K mg "_law_used" s__law_used pm__law_used) (D__law_shorts : DefAt K mg "_law_shorts" s__law_shorts pm__law_shorts) (D__law_distances : DefAt K mg "_law_distances" s__law_distances pm__law_distances) (D__law_joined : DefAt K mg "_law_joined" s__law_joined pm__law_joined) (D__law_lengths : DefAt K mg "_law_lengths" s__law_lengths pm__law_lengths) (D__law_called : DefAt K mg "_law_called" s__law_called pm__law_called) (D__law_refused : DefAt K mg "_law_refused" s__law_refused pm__law_refused) (D__law_odds_refused : DefAt K mg "_law_odds_refused" s__law_odds_refused pm__law_odds_refused) (D__law_places_right : DefAt K mg "_law_places_right" s__law_places_right pm__law_places_right)
    (M_Mail_init : MethAt K A.Mail "__init__" "Mail.__init__" s_Mail_init pm_Mail_init) (M_Mail_letters_told : MethAt K A.Mail "letters_told" "Mail.letters_told" s_Mail_letters_told pm_Mail_letters_told) (M_Mail_heads_told : MethAt K A.Mail "heads_told" "Mail.heads_told" s_Mail_heads_told pm_Mail_heads_told) (M_Mail_len : MethAt K A.Mail "__len__" "Mail.__len__" s_Mail_len pm_Mail_len) (M_Mail_getitem : MethAt K A.Mail "__getitem__" "Mail.__getitem__" s_Mail_getitem pm_Mail_getitem) (M_Mail_eq : MethAt K A.Mail "__eq__" "Mail.__eq__" s_Mail_eq pm_Mail_eq) (m1_Mail : PySem.W.makesIn K A.Mail = true) (m2_Mail : PySem.W.keepIn K (.ref A.Mail) = true)
    {f : Addr} {fd : FuncData} (F : Fun K "law" "law" s_law f fd) : FnOk P w K mg base CX0 14 f fd pm_law (spLaw K) := by
  have X_BadPart : XCls P w K mg base "BadPart" "part" A.BadPart := T.BadPart.cls fun _ _ F => ok_xp F T
  have X_BadRow : XCls P w K mg base "BadRow" "index" A.BadRow := T.BadRow.cls fun _ _ F => ok_x_BadRow F T
  have X_BadLetter : XCls P w K mg base "BadLetter" "spot" A.BadLetter := T.BadLetter.cls fun _ _ F => ok_x_BadLetter F T
  have X_BadIndex : XCls P w K mg base "BadIndex" "index" A.BadIndex := T.BadIndex.cls fun _ _ F => ok_x_BadIndex F T
  have X_BadHead : XCls P w K mg base "BadHead" "index" A.BadHead := T.BadHead.cls fun _ _ F => ok_x_BadHead F T
  have X_TooMany : OCls P w K mg base "TooMany" "limit" A.TooMany := T.TooMany.cls fun _ _ F => ok_x_TooMany F T

  have O_is_integer : Own P w K mg base CX0 "is_integer" 1 pm_is_integer (spInteger K) := D_is_integer.own fun f fd F => ok_integer F T
  have O_is_between : Own P w K mg base CX0 "is_between" 2 pm_is_between (spBetween K) := D_is_between.own fun f fd F => ok_between F O_is_integer
  have O_is_index : Own P w K mg base CX0 "is_index" 3 pm_is_index (spIndex K) := D_is_index.own fun f fd F => ok_index F O_is_between
  have O_is_list : Own P w K mg base CX0 "is_list" 1 pm_is_list (spIsList K) := D_is_list.own fun f fd F => ok_isList F T
  have O_is_tuple_of : Own P w K mg base CX0 "is_tuple_of" 1 pm_is_tuple_of (spTupleOf K) := D_is_tuple_of.own fun f fd F => ok_tupleOf F T
  have O_is_name : Own P w K mg base CX0 "is_name" 1 pm_is_name (spName K) := D_is_name.own fun f fd F => ok_name F T
  have O_check_heads : Own P w K mg base (L2.CX P w) "check_heads" 3 pm_check_heads (spHeads K A) := D_check_heads.own fun f fd F => ok_heads F T O_is_list O_is_name X_BadHead
  have O_check_places : Own P w K mg base (L2.CX P w) "check_places" 4 pm_check_places (spPlaces K A) := D_check_places.own fun f fd F => ok_places F T O_is_between X_BadPart
  have O_is_letter : Own P w K mg base CX0 "is_letter" 3 pm_is_letter (spLetter K) := D_is_letter.own fun f fd F => ok_letter F T O_is_tuple_of O_is_name O_is_between
  have O_check_row : Own P w K mg base (L2.CX P w) "check_row" 5 pm_check_row (spRow K A) := D_check_row.own fun f fd F => ok_row F T O_is_list O_is_letter X_BadRow X_BadLetter X_TooMany
  have O_Mail : OwnC P w K mg base (L2.CX P w) "Mail" A.Mail 7 pm_Mail_init (spInitOk K A) := M_Mail_init.cls (fun f fd F => ok_initOk F T O_is_list O_check_row X_BadPart X_TooMany) m1_Mail m2_Mail T.Mail.gC
  have O_Mail_len : OwnM P w K mg base CX0 A.Mail "__len__" 1 pm_Mail_len (spMLen K A) := M_Mail_len.own fun f fd F => ok_mlen F T
  have O_Mail_letters_told : OwnM P w K mg base CX0 A.Mail "letters_told" 1 pm_Mail_letters_told (spLetTold K A) := M_Mail_letters_told.own fun f fd F => ok_letTold F T
  have O_Mail_getitem : OwnM P w K mg base (L2.CX P w) A.Mail "__getitem__" 5 pm_Mail_getitem (spGet K A) := M_Mail_getitem.own fun f fd F => ok_get F T O_is_index X_BadIndex
  have O_Mail_heads_told : OwnM P w K mg base CX0 A.Mail "heads_told" 1 pm_Mail_heads_told (spHdTold K A) := M_Mail_heads_told.own fun f fd F => ok_hdTold F T
  have O_distance_at : Own P w K mg base CX0 "distance_at" 1 pm_distance_at (spDistAt K) := D_distance_at.own fun f fd F => ok_distAt F T
  have O_distances : Own P w K mg base (L2.CX P w) "distances" 4 pm_distances (spDists K A) := D_distances.own fun f fd F => ok_dists F T O_check_heads O_distance_at
  have O_is_near : Own P w K mg base CX0 "is_near" 1 pm_is_near spNear := D_is_near.own fun f fd F => ok_near F
  have O_shorts : Own P w K mg base (L2.CX P w) "shorts" 6 pm_shorts (spShorts K A) := D_shorts.own fun f fd F => ok_shorts F T O_check_heads O_check_places O_distances O_is_near
  have O_check_mail : Own P w K mg base (L2.CX P w) "check_mail" 3 pm_check_mail (spChkMail K A) := D_check_mail.own fun f fd F => ok_chkMail F T X_BadPart
  have O_check_cost : Own P w K mg base (L2.CX P w) "check_cost" 4 pm_check_cost (spChkCost K A) := D_check_cost.own fun f fd F => ok_chkCost F T O_is_between X_BadPart
  have O_letter_lengths : Own P w K mg base (L2.CX P w) "letter_lengths" 8 pm_letter_lengths (spLens K A) := D_letter_lengths.own fun f fd F => ok_lens F T O_check_mail O_check_places O_check_cost O_shorts O_Mail_heads_told O_Mail_letters_told
  have O_places_for : Own P w K mg base (L2.CX P w) "places_for" 10 pm_places_for (spPlacesFor K A) := D_places_for.own fun f fd F => ok_placesFor F T O_check_mail O_check_cost O_is_integer O_letter_lengths X_BadPart
  have O__law_pool : Own P w K mg base CX0 "_law_pool" 1 pm__law_pool (spPool K) := D__law_pool.own fun f fd F => ok_pool F T
  have O__law_draw : Own P w K mg base CX0 "_law_draw" 1 pm__law_draw spDraw := D__law_draw.own fun f fd F => ok_draw F T
  have O__law_pick : Own P w K mg base CX0 "_law_pick" 2 pm__law_pick spPick := D__law_pick.own fun f fd F => ok_pick F T O__law_draw
  have O__law_heads : Own P w K mg base CX0 "_law_heads" 3 pm__law_heads spLHeads := D__law_heads.own fun f fd F => ok_lheads F T O__law_pick
  have O__law_used : Own P w K mg base CX0 "_law_used" 1 pm__law_used (spLUsed K) := D__law_used.own fun f fd F => ok_lused F T
  have O__law_joined : Own P w K mg base CX0 "_law_joined" 1 pm__law_joined (spJoined K) := D__law_joined.own fun f fd F => ok_joined F T
  have O__law_shorts : Own P w K mg base CX0 "_law_shorts" 2 pm__law_shorts (spLShorts K) := D__law_shorts.own fun f fd F => ok_lshorts F T O__law_used
  have O__law_distances : Own P w K mg base CX0 "_law_distances" 1 pm__law_distances (spLDists K) := D__law_distances.own fun f fd F => ok_ldists F T
  have O__law_lengths : Own P w K mg base CX0 "_law_lengths" 3 pm__law_lengths (spLLens K) := D__law_lengths.own fun f fd F => ok_llens F T O__law_joined O__law_shorts
  have O__law_called : Own P w K mg base (L2.CX P w) "_law_called" 11 pm__law_called (spCalled5 K A) := D__law_called.own fun f fd F => ok_called5 F T O_distances O_shorts O_letter_lengths O_places_for
  have O__law_refused : Own P w K mg base CX0 "_law_refused" 12 pm__law_refused (spRefd5 K A) := D__law_refused.own fun f fd F => ok_refd5 F T O__law_called
  have O__law_odds_refused : Own P w K mg base CX0 "_law_odds_refused" 13 pm__law_odds_refused (spOddsRef K A) := D__law_odds_refused.own fun f fd F => ok_oddsRef F T O__law_refused
  have O__law_places_right : Own P w K mg base CX0 "_law_places_right" 11 pm__law_places_right (spPlRight K A) := D__law_places_right.own fun f fd F => ok_plRight F T O__law_shorts O__law_lengths O_places_for
  exact ok_law F T O__law_pool O__law_draw O__law_heads O__law_joined O_Mail O_shorts O__law_shorts O_distances O__law_distances O__law_lengths O_letter_lengths O__law_places_right O__law_odds_refused
end
theorem all_mk {P : Program} {w : World} {K : PySem.W.Frag} {h : Heap} {mg : Str → Option Value} {fa   ABadPart ABadRow ABadLetter ABadIndex ABadHead ATooMany AWholeError AMail f_is_integer f_is_between f_is_index f_is_list f_is_name f_is_tuple_of f_is_letter f_check_heads f_check_row f_check_places f_check_mail f_check_cost f_distances f_distance_at f_shorts f_is_near f_letter_lengths f_places_for f__law_pool f__law_draw f__law_pick f__law_heads f__law_used f__law_shorts f__law_distances f__law_joined f__law_lengths f__law_called f__law_refused f__law_odds_refused f__law_places_right f_law f_BadPart_init f_BadRow_init f_BadLetter_init f_BadIndex_init f_BadHead_init f_TooMany_init f_Mail_init f_Mail_letters_told f_Mail_heads_told f_Mail_len f_Mail_getitem f_Mail_eq : Addr} (X : K.In h) (G : h.Ns mainGlobals mg) (hfa : mg "law" = some (.ref fa))
    {od_is_integer an_is_integer od_is_between an_is_between od_is_index an_is_index od_is_list an_is_list od_is_name an_is_name od_is_tuple_of an_is_tuple_of od_is_letter an_is_letter od_check_heads an_check_heads od_check_row an_check_row od_check_places an_check_places od_check_mail an_check_mail od_check_cost an_check_cost od_distances an_distances od_distance_at an_distance_at od_shorts an_shorts od_is_near an_is_near od_letter_lengths an_letter_lengths od_places_for an_places_for od__law_pool an__law_pool od__law_draw an__law_draw od__law_pick an__law_pick od__law_heads an__law_heads od__law_used an__law_used od__law_shorts an__law_shorts od__law_distances an__law_distances od__law_joined an__law_joined od__law_lengths an__law_lengths od__law_called an__law_called od__law_refused an__law_refused od__law_odds_refused an__law_odds_refused od__law_places_right an__law_places_right od_law an_law od_BadPart_init an_BadPart_init od_BadRow_init an_BadRow_init od_BadLetter_init an_BadLetter_init od_BadIndex_init an_BadIndex_init od_BadHead_init an_BadHead_init od_TooMany_init an_TooMany_init od_Mail_init an_Mail_init od_Mail_letters_told an_Mail_letters_told od_Mail_heads_told an_Mail_heads_told od_Mail_len an_Mail_len od_Mail_getitem an_Mail_getitem od_Mail_eq an_Mail_eq : Option Addr} {sl_is_integer sl_is_between sl_is_index sl_is_list sl_is_name sl_is_tuple_of sl_is_letter sl_check_heads sl_check_row sl_check_places sl_check_mail sl_check_cost sl_distances sl_distance_at sl_shorts sl_is_near sl_letter_lengths sl_places_for sl__law_pool sl__law_draw sl__law_pick sl__law_heads sl__law_used sl__law_shorts sl__law_distances sl__law_joined sl__law_lengths sl__law_called sl__law_refused sl__law_odds_refused sl__law_places_right sl_law sl_BadPart_init sl_BadRow_init sl_BadLetter_init sl_BadIndex_init sl_BadHead_init sl_TooMany_init sl_Mail_init sl_Mail_letters_told sl_Mail_heads_told sl_Mail_len sl_Mail_getitem sl_Mail_eq : Array (Option Value)} {oc_is_integer kV_is_integer dc_is_integer pm_is_integer_ cd_is_integer ct_is_integer oc_is_between kV_is_between dc_is_between pm_is_between_ cd_is_between ct_is_between oc_is_index kV_is_index dc_is_index pm_is_index_ cd_is_index ct_is_index oc_is_list kV_is_list dc_is_list pm_is_list_ cd_is_list ct_is_list oc_is_name kV_is_name dc_is_name pm_is_name_ cd_is_name ct_is_name oc_is_tuple_of kV_is_tuple_of dc_is_tuple_of pm_is_tuple_of_ cd_is_tuple_of ct_is_tuple_of oc_is_letter kV_is_letter dc_is_letter pm_is_letter_ cd_is_letter ct_is_letter oc_check_heads kV_check_heads dc_check_heads pm_check_heads_ cd_check_heads ct_check_heads oc_check_row kV_check_row dc_check_row pm_check_row_ cd_check_row ct_check_row oc_check_places kV_check_places dc_check_places pm_check_places_ cd_check_places ct_check_places oc_check_mail kV_check_mail dc_check_mail pm_check_mail_ cd_check_mail ct_check_mail oc_check_cost kV_check_cost dc_check_cost pm_check_cost_ cd_check_cost ct_check_cost oc_distances kV_distances dc_distances pm_distances_ cd_distances ct_distances oc_distance_at kV_distance_at dc_distance_at pm_distance_at_ cd_distance_at ct_distance_at oc_shorts kV_shorts dc_shorts pm_shorts_ cd_shorts ct_shorts oc_is_near kV_is_near dc_is_near pm_is_near_ cd_is_near ct_is_near oc_letter_lengths kV_letter_lengths dc_letter_lengths pm_letter_lengths_ cd_letter_lengths ct_letter_lengths oc_places_for kV_places_for dc_places_for pm_places_for_ cd_places_for ct_places_for oc__law_pool kV__law_pool dc__law_pool pm__law_pool_ cd__law_pool ct__law_pool oc__law_draw kV__law_draw dc__law_draw pm__law_draw_ cd__law_draw ct__law_draw oc__law_pick kV__law_pick dc__law_pick pm__law_pick_ cd__law_pick ct__law_pick oc__law_heads kV__law_heads dc__law_heads pm__law_heads_ cd__law_heads ct__law_heads oc__law_used kV__law_used dc__law_used pm__law_used_ cd__law_used ct__law_used oc__law_shorts kV__law_shorts dc__law_shorts pm__law_shorts_ cd__law_shorts ct__law_shorts oc__law_distances kV__law_distances dc__law_distances pm__law_distances_ cd__law_distances ct__law_distances oc__law_joined kV__law_joined dc__law_joined pm__law_joined_ cd__law_joined ct__law_joined oc__law_lengths kV__law_lengths dc__law_lengths pm__law_lengths_ cd__law_lengths ct__law_lengths oc__law_called kV__law_called dc__law_called pm__law_called_ cd__law_called ct__law_called oc__law_refused kV__law_refused dc__law_refused pm__law_refused_ cd__law_refused ct__law_refused oc__law_odds_refused kV__law_odds_refused dc__law_odds_refused pm__law_odds_refused_ cd__law_odds_refused ct__law_odds_refused oc__law_places_right kV__law_places_right dc__law_places_right pm__law_places_right_ cd__law_places_right ct__law_places_right oc_law kV_law dc_law pm_law_ cd_law ct_law oc_BadPart_init kV_BadPart_init dc_BadPart_init pm_BadPart_init_ cd_BadPart_init ct_BadPart_init oc_BadRow_init kV_BadRow_init dc_BadRow_init pm_BadRow_init_ cd_BadRow_init ct_BadRow_init oc_BadLetter_init kV_BadLetter_init dc_BadLetter_init pm_BadLetter_init_ cd_BadLetter_init ct_BadLetter_init oc_BadIndex_init kV_BadIndex_init dc_BadIndex_init pm_BadIndex_init_ cd_BadIndex_init ct_BadIndex_init oc_BadHead_init kV_BadHead_init dc_BadHead_init pm_BadHead_init_ cd_BadHead_init ct_BadHead_init oc_TooMany_init kV_TooMany_init dc_TooMany_init pm_TooMany_init_ cd_TooMany_init ct_TooMany_init oc_Mail_init kV_Mail_init dc_Mail_init pm_Mail_init_ cd_Mail_init ct_Mail_init oc_Mail_letters_told kV_Mail_letters_told dc_Mail_letters_told pm_Mail_letters_told_ cd_Mail_letters_told ct_Mail_letters_told oc_Mail_heads_told kV_Mail_heads_told dc_Mail_heads_told pm_Mail_heads_told_ cd_Mail_heads_told ct_Mail_heads_told oc_Mail_len kV_Mail_len dc_Mail_len pm_Mail_len_ cd_Mail_len ct_Mail_len oc_Mail_getitem kV_Mail_getitem dc_Mail_getitem pm_Mail_getitem_ cd_Mail_getitem ct_Mail_getitem oc_Mail_eq kV_Mail_eq dc_Mail_eq pm_Mail_eq_ cd_Mail_eq ct_Mail_eq : Value} {t_ALPHABET t_MOST_HEADS t_MOST_BODY t_MOST_LETTERS t_MOST_ROWS t_MOST_PLACES : Tok}
    {xBadPart_nm xBadPart_q : Str} {xBadPart_N : Addr} {xBadPart_bs : List Value} {xBadPart_sn : List Str} {xBadPart_sub : List Value} {xBadPart_ab : Bool} {xBadPart_col : Option Bool} {xBadPart_dd : Option Addr} {xBadPart_m0 xBadPart_m1 xBadPart_m2 xBadPart_m3 xBadPart_m5 : Option Value}
    {xBadRow_nm xBadRow_q : Str} {xBadRow_N : Addr} {xBadRow_bs : List Value} {xBadRow_sn : List Str} {xBadRow_sub : List Value} {xBadRow_ab : Bool} {xBadRow_col : Option Bool} {xBadRow_dd : Option Addr} {xBadRow_m0 xBadRow_m1 xBadRow_m2 xBadRow_m3 xBadRow_m5 : Option Value}
    {xBadLetter_nm xBadLetter_q : Str} {xBadLetter_N : Addr} {xBadLetter_bs : List Value} {xBadLetter_sn : List Str} {xBadLetter_sub : List Value} {xBadLetter_ab : Bool} {xBadLetter_col : Option Bool} {xBadLetter_dd : Option Addr} {xBadLetter_m0 xBadLetter_m1 xBadLetter_m2 xBadLetter_m3 xBadLetter_m5 : Option Value}
    {xBadIndex_nm xBadIndex_q : Str} {xBadIndex_N : Addr} {xBadIndex_bs : List Value} {xBadIndex_sn : List Str} {xBadIndex_sub : List Value} {xBadIndex_ab : Bool} {xBadIndex_col : Option Bool} {xBadIndex_dd : Option Addr} {xBadIndex_m0 xBadIndex_m1 xBadIndex_m2 xBadIndex_m3 xBadIndex_m5 : Option Value}
    {xBadHead_nm xBadHead_q : Str} {xBadHead_N : Addr} {xBadHead_bs : List Value} {xBadHead_sn : List Str} {xBadHead_sub : List Value} {xBadHead_ab : Bool} {xBadHead_col : Option Bool} {xBadHead_dd : Option Addr} {xBadHead_m0 xBadHead_m1 xBadHead_m2 xBadHead_m3 xBadHead_m5 : Option Value}
    {xTooMany_nm xTooMany_q : Str} {xTooMany_N : Addr} {xTooMany_bs : List Value} {xTooMany_sn : List Str} {xTooMany_sub : List Value} {xTooMany_ab : Bool} {xTooMany_col : Option Bool} {xTooMany_dd : Option Addr} {xTooMany_m0 xTooMany_m1 xTooMany_m2 xTooMany_m3 xTooMany_m5 : Option Value}
    (g_BadPart : PySem.W.nsIn K mainGlobals "BadPart" = some (some (.ref ABadPart)))
    (g_BadRow : PySem.W.nsIn K mainGlobals "BadRow" = some (some (.ref ABadRow)))
    (g_BadLetter : PySem.W.nsIn K mainGlobals "BadLetter" = some (some (.ref ABadLetter)))
    (g_BadIndex : PySem.W.nsIn K mainGlobals "BadIndex" = some (some (.ref ABadIndex)))
    (g_BadHead : PySem.W.nsIn K mainGlobals "BadHead" = some (some (.ref ABadHead)))
    (g_TooMany : PySem.W.nsIn K mainGlobals "TooMany" = some (some (.ref ATooMany)))
    (g_WholeError : PySem.W.nsIn K mainGlobals "WholeError" = some (some (.ref AWholeError)))
    (g_Mail : PySem.W.nsIn K mainGlobals "Mail" = some (some (.ref AMail)))
    (a_is_integer : PySem.W.nsIn K mainGlobals "is_integer" = some (some (.ref f_is_integer)))
    (l_is_integer : K.lookup f_is_integer = some ⟨oc_is_integer, od_is_integer, .func (PySem.W.fnOf "is_integer" "is_integer" (defArgs s_is_integer) (defBody s_is_integer) (defScope s_is_integer) .none kV_is_integer dc_is_integer pm_is_integer_ an_is_integer cd_is_integer ct_is_integer), sl_is_integer⟩)
    (c_is_integer : PySem.W.codeIn K cd_is_integer "is_integer" = true)
    (k_is_integer : PySem.W.keepIn K (.ref f_is_integer) = true)
    (a_is_between : PySem.W.nsIn K mainGlobals "is_between" = some (some (.ref f_is_between)))
    (l_is_between : K.lookup f_is_between = some ⟨oc_is_between, od_is_between, .func (PySem.W.fnOf "is_between" "is_between" (defArgs s_is_between) (defBody s_is_between) (defScope s_is_between) .none kV_is_between dc_is_between pm_is_between_ an_is_between cd_is_between ct_is_between), sl_is_between⟩)
    (c_is_between : PySem.W.codeIn K cd_is_between "is_between" = true)
    (k_is_between : PySem.W.keepIn K (.ref f_is_between) = true)
    (a_is_index : PySem.W.nsIn K mainGlobals "is_index" = some (some (.ref f_is_index)))
    (l_is_index : K.lookup f_is_index = some ⟨oc_is_index, od_is_index, .func (PySem.W.fnOf "is_index" "is_index" (defArgs s_is_index) (defBody s_is_index) (defScope s_is_index) .none kV_is_index dc_is_index pm_is_index_ an_is_index cd_is_index ct_is_index), sl_is_index⟩)
    (c_is_index : PySem.W.codeIn K cd_is_index "is_index" = true)
    (k_is_index : PySem.W.keepIn K (.ref f_is_index) = true)
    (a_is_list : PySem.W.nsIn K mainGlobals "is_list" = some (some (.ref f_is_list)))
    (l_is_list : K.lookup f_is_list = some ⟨oc_is_list, od_is_list, .func (PySem.W.fnOf "is_list" "is_list" (defArgs s_is_list) (defBody s_is_list) (defScope s_is_list) .none kV_is_list dc_is_list pm_is_list_ an_is_list cd_is_list ct_is_list), sl_is_list⟩)
    (c_is_list : PySem.W.codeIn K cd_is_list "is_list" = true)
    (k_is_list : PySem.W.keepIn K (.ref f_is_list) = true)
    (a_is_name : PySem.W.nsIn K mainGlobals "is_name" = some (some (.ref f_is_name)))
    (l_is_name : K.lookup f_is_name = some ⟨oc_is_name, od_is_name, .func (PySem.W.fnOf "is_name" "is_name" (defArgs s_is_name) (defBody s_is_name) (defScope s_is_name) .none kV_is_name dc_is_name pm_is_name_ an_is_name cd_is_name ct_is_name), sl_is_name⟩)
    (c_is_name : PySem.W.codeIn K cd_is_name "is_name" = true)
    (k_is_name : PySem.W.keepIn K (.ref f_is_name) = true)
    (a_is_tuple_of : PySem.W.nsIn K mainGlobals "is_tuple_of" = some (some (.ref f_is_tuple_of)))
    (l_is_tuple_of : K.lookup f_is_tuple_of = some ⟨oc_is_tuple_of, od_is_tuple_of, .func (PySem.W.fnOf "is_tuple_of" "is_tuple_of" (defArgs s_is_tuple_of) (defBody s_is_tuple_of) (defScope s_is_tuple_of) .none kV_is_tuple_of dc_is_tuple_of pm_is_tuple_of_ an_is_tuple_of cd_is_tuple_of ct_is_tuple_of), sl_is_tuple_of⟩)
    (c_is_tuple_of : PySem.W.codeIn K cd_is_tuple_of "is_tuple_of" = true)
    (k_is_tuple_of : PySem.W.keepIn K (.ref f_is_tuple_of) = true)
    (a_is_letter : PySem.W.nsIn K mainGlobals "is_letter" = some (some (.ref f_is_letter)))
    (l_is_letter : K.lookup f_is_letter = some ⟨oc_is_letter, od_is_letter, .func (PySem.W.fnOf "is_letter" "is_letter" (defArgs s_is_letter) (defBody s_is_letter) (defScope s_is_letter) .none kV_is_letter dc_is_letter pm_is_letter_ an_is_letter cd_is_letter ct_is_letter), sl_is_letter⟩)
    (c_is_letter : PySem.W.codeIn K cd_is_letter "is_letter" = true)
    (k_is_letter : PySem.W.keepIn K (.ref f_is_letter) = true)
    (a_check_heads : PySem.W.nsIn K mainGlobals "check_heads" = some (some (.ref f_check_heads)))
    (l_check_heads : K.lookup f_check_heads = some ⟨oc_check_heads, od_check_heads, .func (PySem.W.fnOf "check_heads" "check_heads" (defArgs s_check_heads) (defBody s_check_heads) (defScope s_check_heads) .none kV_check_heads dc_check_heads pm_check_heads_ an_check_heads cd_check_heads ct_check_heads), sl_check_heads⟩)
    (c_check_heads : PySem.W.codeIn K cd_check_heads "check_heads" = true)
    (k_check_heads : PySem.W.keepIn K (.ref f_check_heads) = true)
    (a_check_row : PySem.W.nsIn K mainGlobals "check_row" = some (some (.ref f_check_row)))
    (l_check_row : K.lookup f_check_row = some ⟨oc_check_row, od_check_row, .func (PySem.W.fnOf "check_row" "check_row" (defArgs s_check_row) (defBody s_check_row) (defScope s_check_row) .none kV_check_row dc_check_row pm_check_row_ an_check_row cd_check_row ct_check_row), sl_check_row⟩)
    (c_check_row : PySem.W.codeIn K cd_check_row "check_row" = true)
    (k_check_row : PySem.W.keepIn K (.ref f_check_row) = true)
    (a_check_places : PySem.W.nsIn K mainGlobals "check_places" = some (some (.ref f_check_places)))
    (l_check_places : K.lookup f_check_places = some ⟨oc_check_places, od_check_places, .func (PySem.W.fnOf "check_places" "check_places" (defArgs s_check_places) (defBody s_check_places) (defScope s_check_places) .none kV_check_places dc_check_places pm_check_places_ an_check_places cd_check_places ct_check_places), sl_check_places⟩)
    (c_check_places : PySem.W.codeIn K cd_check_places "check_places" = true)
    (k_check_places : PySem.W.keepIn K (.ref f_check_places) = true)
    (a_check_mail : PySem.W.nsIn K mainGlobals "check_mail" = some (some (.ref f_check_mail)))
    (l_check_mail : K.lookup f_check_mail = some ⟨oc_check_mail, od_check_mail, .func (PySem.W.fnOf "check_mail" "check_mail" (defArgs s_check_mail) (defBody s_check_mail) (defScope s_check_mail) .none kV_check_mail dc_check_mail pm_check_mail_ an_check_mail cd_check_mail ct_check_mail), sl_check_mail⟩)
    (c_check_mail : PySem.W.codeIn K cd_check_mail "check_mail" = true)
    (k_check_mail : PySem.W.keepIn K (.ref f_check_mail) = true)
    (a_check_cost : PySem.W.nsIn K mainGlobals "check_cost" = some (some (.ref f_check_cost)))
    (l_check_cost : K.lookup f_check_cost = some ⟨oc_check_cost, od_check_cost, .func (PySem.W.fnOf "check_cost" "check_cost" (defArgs s_check_cost) (defBody s_check_cost) (defScope s_check_cost) .none kV_check_cost dc_check_cost pm_check_cost_ an_check_cost cd_check_cost ct_check_cost), sl_check_cost⟩)
    (c_check_cost : PySem.W.codeIn K cd_check_cost "check_cost" = true)
    (k_check_cost : PySem.W.keepIn K (.ref f_check_cost) = true)
    (a_distances : PySem.W.nsIn K mainGlobals "distances" = some (some (.ref f_distances)))
    (l_distances : K.lookup f_distances = some ⟨oc_distances, od_distances, .func (PySem.W.fnOf "distances" "distances" (defArgs s_distances) (defBody s_distances) (defScope s_distances) .none kV_distances dc_distances pm_distances_ an_distances cd_distances ct_distances), sl_distances⟩)
    (c_distances : PySem.W.codeIn K cd_distances "distances" = true)
    (k_distances : PySem.W.keepIn K (.ref f_distances) = true)
    (a_distance_at : PySem.W.nsIn K mainGlobals "distance_at" = some (some (.ref f_distance_at)))
    (l_distance_at : K.lookup f_distance_at = some ⟨oc_distance_at, od_distance_at, .func (PySem.W.fnOf "distance_at" "distance_at" (defArgs s_distance_at) (defBody s_distance_at) (defScope s_distance_at) .none kV_distance_at dc_distance_at pm_distance_at_ an_distance_at cd_distance_at ct_distance_at), sl_distance_at⟩)
    (c_distance_at : PySem.W.codeIn K cd_distance_at "distance_at" = true)
    (k_distance_at : PySem.W.keepIn K (.ref f_distance_at) = true)
    (a_shorts : PySem.W.nsIn K mainGlobals "shorts" = some (some (.ref f_shorts)))
    (l_shorts : K.lookup f_shorts = some ⟨oc_shorts, od_shorts, .func (PySem.W.fnOf "shorts" "shorts" (defArgs s_shorts) (defBody s_shorts) (defScope s_shorts) .none kV_shorts dc_shorts pm_shorts_ an_shorts cd_shorts ct_shorts), sl_shorts⟩)
    (c_shorts : PySem.W.codeIn K cd_shorts "shorts" = true)
    (k_shorts : PySem.W.keepIn K (.ref f_shorts) = true)
    (a_is_near : PySem.W.nsIn K mainGlobals "is_near" = some (some (.ref f_is_near)))
    (l_is_near : K.lookup f_is_near = some ⟨oc_is_near, od_is_near, .func (PySem.W.fnOf "is_near" "is_near" (defArgs s_is_near) (defBody s_is_near) (defScope s_is_near) .none kV_is_near dc_is_near pm_is_near_ an_is_near cd_is_near ct_is_near), sl_is_near⟩)
    (c_is_near : PySem.W.codeIn K cd_is_near "is_near" = true)
    (k_is_near : PySem.W.keepIn K (.ref f_is_near) = true)
    (a_letter_lengths : PySem.W.nsIn K mainGlobals "letter_lengths" = some (some (.ref f_letter_lengths)))
    (l_letter_lengths : K.lookup f_letter_lengths = some ⟨oc_letter_lengths, od_letter_lengths, .func (PySem.W.fnOf "letter_lengths" "letter_lengths" (defArgs s_letter_lengths) (defBody s_letter_lengths) (defScope s_letter_lengths) .none kV_letter_lengths dc_letter_lengths pm_letter_lengths_ an_letter_lengths cd_letter_lengths ct_letter_lengths), sl_letter_lengths⟩)
    (c_letter_lengths : PySem.W.codeIn K cd_letter_lengths "letter_lengths" = true)
    (k_letter_lengths : PySem.W.keepIn K (.ref f_letter_lengths) = true)
    (a_places_for : PySem.W.nsIn K mainGlobals "places_for" = some (some (.ref f_places_for)))
    (l_places_for : K.lookup f_places_for = some ⟨oc_places_for, od_places_for, .func (PySem.W.fnOf "places_for" "places_for" (defArgs s_places_for) (defBody s_places_for) (defScope s_places_for) .none kV_places_for dc_places_for pm_places_for_ an_places_for cd_places_for ct_places_for), sl_places_for⟩)
    (c_places_for : PySem.W.codeIn K cd_places_for "places_for" = true)
    (k_places_for : PySem.W.keepIn K (.ref f_places_for) = true)
    (a__law_pool : PySem.W.nsIn K mainGlobals "_law_pool" = some (some (.ref f__law_pool)))
    (l__law_pool : K.lookup f__law_pool = some ⟨oc__law_pool, od__law_pool, .func (PySem.W.fnOf "_law_pool" "_law_pool" (defArgs s__law_pool) (defBody s__law_pool) (defScope s__law_pool) .none kV__law_pool dc__law_pool pm__law_pool_ an__law_pool cd__law_pool ct__law_pool), sl__law_pool⟩)
    (c__law_pool : PySem.W.codeIn K cd__law_pool "_law_pool" = true)
    (k__law_pool : PySem.W.keepIn K (.ref f__law_pool) = true)
    (a__law_draw : PySem.W.nsIn K mainGlobals "_law_draw" = some (some (.ref f__law_draw)))
    (l__law_draw : K.lookup f__law_draw = some ⟨oc__law_draw, od__law_draw, .func (PySem.W.fnOf "_law_draw" "_law_draw" (defArgs s__law_draw) (defBody s__law_draw) (defScope s__law_draw) .none kV__law_draw dc__law_draw pm__law_draw_ an__law_draw cd__law_draw ct__law_draw), sl__law_draw⟩)
    (c__law_draw : PySem.W.codeIn K cd__law_draw "_law_draw" = true)
    (k__law_draw : PySem.W.keepIn K (.ref f__law_draw) = true)
    (a__law_pick : PySem.W.nsIn K mainGlobals "_law_pick" = some (some (.ref f__law_pick)))
    (l__law_pick : K.lookup f__law_pick = some ⟨oc__law_pick, od__law_pick, .func (PySem.W.fnOf "_law_pick" "_law_pick" (defArgs s__law_pick) (defBody s__law_pick) (defScope s__law_pick) .none kV__law_pick dc__law_pick pm__law_pick_ an__law_pick cd__law_pick ct__law_pick), sl__law_pick⟩)
    (c__law_pick : PySem.W.codeIn K cd__law_pick "_law_pick" = true)
    (k__law_pick : PySem.W.keepIn K (.ref f__law_pick) = true)
    (a__law_heads : PySem.W.nsIn K mainGlobals "_law_heads" = some (some (.ref f__law_heads)))
    (l__law_heads : K.lookup f__law_heads = some ⟨oc__law_heads, od__law_heads, .func (PySem.W.fnOf "_law_heads" "_law_heads" (defArgs s__law_heads) (defBody s__law_heads) (defScope s__law_heads) .none kV__law_heads dc__law_heads pm__law_heads_ an__law_heads cd__law_heads ct__law_heads), sl__law_heads⟩)
    (c__law_heads : PySem.W.codeIn K cd__law_heads "_law_heads" = true)
    (k__law_heads : PySem.W.keepIn K (.ref f__law_heads) = true)
    (a__law_used : PySem.W.nsIn K mainGlobals "_law_used" = some (some (.ref f__law_used)))
    (l__law_used : K.lookup f__law_used = some ⟨oc__law_used, od__law_used, .func (PySem.W.fnOf "_law_used" "_law_used" (defArgs s__law_used) (defBody s__law_used) (defScope s__law_used) .none kV__law_used dc__law_used pm__law_used_ an__law_used cd__law_used ct__law_used), sl__law_used⟩)
    (c__law_used : PySem.W.codeIn K cd__law_used "_law_used" = true)
    (k__law_used : PySem.W.keepIn K (.ref f__law_used) = true)
    (a__law_shorts : PySem.W.nsIn K mainGlobals "_law_shorts" = some (some (.ref f__law_shorts)))
    (l__law_shorts : K.lookup f__law_shorts = some ⟨oc__law_shorts, od__law_shorts, .func (PySem.W.fnOf "_law_shorts" "_law_shorts" (defArgs s__law_shorts) (defBody s__law_shorts) (defScope s__law_shorts) .none kV__law_shorts dc__law_shorts pm__law_shorts_ an__law_shorts cd__law_shorts ct__law_shorts), sl__law_shorts⟩)
    (c__law_shorts : PySem.W.codeIn K cd__law_shorts "_law_shorts" = true)
    (k__law_shorts : PySem.W.keepIn K (.ref f__law_shorts) = true)
    (a__law_distances : PySem.W.nsIn K mainGlobals "_law_distances" = some (some (.ref f__law_distances)))
    (l__law_distances : K.lookup f__law_distances = some ⟨oc__law_distances, od__law_distances, .func (PySem.W.fnOf "_law_distances" "_law_distances" (defArgs s__law_distances) (defBody s__law_distances) (defScope s__law_distances) .none kV__law_distances dc__law_distances pm__law_distances_ an__law_distances cd__law_distances ct__law_distances), sl__law_distances⟩)
    (c__law_distances : PySem.W.codeIn K cd__law_distances "_law_distances" = true)
    (k__law_distances : PySem.W.keepIn K (.ref f__law_distances) = true)
    (a__law_joined : PySem.W.nsIn K mainGlobals "_law_joined" = some (some (.ref f__law_joined)))
    (l__law_joined : K.lookup f__law_joined = some ⟨oc__law_joined, od__law_joined, .func (PySem.W.fnOf "_law_joined" "_law_joined" (defArgs s__law_joined) (defBody s__law_joined) (defScope s__law_joined) .none kV__law_joined dc__law_joined pm__law_joined_ an__law_joined cd__law_joined ct__law_joined), sl__law_joined⟩)
    (c__law_joined : PySem.W.codeIn K cd__law_joined "_law_joined" = true)
    (k__law_joined : PySem.W.keepIn K (.ref f__law_joined) = true)
    (a__law_lengths : PySem.W.nsIn K mainGlobals "_law_lengths" = some (some (.ref f__law_lengths)))
    (l__law_lengths : K.lookup f__law_lengths = some ⟨oc__law_lengths, od__law_lengths, .func (PySem.W.fnOf "_law_lengths" "_law_lengths" (defArgs s__law_lengths) (defBody s__law_lengths) (defScope s__law_lengths) .none kV__law_lengths dc__law_lengths pm__law_lengths_ an__law_lengths cd__law_lengths ct__law_lengths), sl__law_lengths⟩)
    (c__law_lengths : PySem.W.codeIn K cd__law_lengths "_law_lengths" = true)
    (k__law_lengths : PySem.W.keepIn K (.ref f__law_lengths) = true)
    (a__law_called : PySem.W.nsIn K mainGlobals "_law_called" = some (some (.ref f__law_called)))
    (l__law_called : K.lookup f__law_called = some ⟨oc__law_called, od__law_called, .func (PySem.W.fnOf "_law_called" "_law_called" (defArgs s__law_called) (defBody s__law_called) (defScope s__law_called) .none kV__law_called dc__law_called pm__law_called_ an__law_called cd__law_called ct__law_called), sl__law_called⟩)
    (c__law_called : PySem.W.codeIn K cd__law_called "_law_called" = true)
    (k__law_called : PySem.W.keepIn K (.ref f__law_called) = true)
    (a__law_refused : PySem.W.nsIn K mainGlobals "_law_refused" = some (some (.ref f__law_refused)))
    (l__law_refused : K.lookup f__law_refused = some ⟨oc__law_refused, od__law_refused, .func (PySem.W.fnOf "_law_refused" "_law_refused" (defArgs s__law_refused) (defBody s__law_refused) (defScope s__law_refused) .none kV__law_refused dc__law_refused pm__law_refused_ an__law_refused cd__law_refused ct__law_refused), sl__law_refused⟩)
    (c__law_refused : PySem.W.codeIn K cd__law_refused "_law_refused" = true)
    (k__law_refused : PySem.W.keepIn K (.ref f__law_refused) = true)
    (a__law_odds_refused : PySem.W.nsIn K mainGlobals "_law_odds_refused" = some (some (.ref f__law_odds_refused)))
    (l__law_odds_refused : K.lookup f__law_odds_refused = some ⟨oc__law_odds_refused, od__law_odds_refused, .func (PySem.W.fnOf "_law_odds_refused" "_law_odds_refused" (defArgs s__law_odds_refused) (defBody s__law_odds_refused) (defScope s__law_odds_refused) .none kV__law_odds_refused dc__law_odds_refused pm__law_odds_refused_ an__law_odds_refused cd__law_odds_refused ct__law_odds_refused), sl__law_odds_refused⟩)
    (c__law_odds_refused : PySem.W.codeIn K cd__law_odds_refused "_law_odds_refused" = true)
    (k__law_odds_refused : PySem.W.keepIn K (.ref f__law_odds_refused) = true)
    (a__law_places_right : PySem.W.nsIn K mainGlobals "_law_places_right" = some (some (.ref f__law_places_right)))
    (l__law_places_right : K.lookup f__law_places_right = some ⟨oc__law_places_right, od__law_places_right, .func (PySem.W.fnOf "_law_places_right" "_law_places_right" (defArgs s__law_places_right) (defBody s__law_places_right) (defScope s__law_places_right) .none kV__law_places_right dc__law_places_right pm__law_places_right_ an__law_places_right cd__law_places_right ct__law_places_right), sl__law_places_right⟩)
    (c__law_places_right : PySem.W.codeIn K cd__law_places_right "_law_places_right" = true)
    (k__law_places_right : PySem.W.keepIn K (.ref f__law_places_right) = true)
    (a_law : PySem.W.nsIn K mainGlobals "law" = some (some (.ref f_law)))
    (l_law : K.lookup f_law = some ⟨oc_law, od_law, .func (PySem.W.fnOf "law" "law" (defArgs s_law) (defBody s_law) (defScope s_law) .none kV_law dc_law pm_law_ an_law cd_law ct_law), sl_law⟩)
    (c_law : PySem.W.codeIn K cd_law "law" = true)
    (k_law : PySem.W.keepIn K (.ref f_law) = true)
    (a_BadPart_init : PySem.W.findIn K (.ref ABadPart) "__init__" = some (some (.ref f_BadPart_init)))
    (i_BadPart_init : PySem.W.typeIn K (.ref f_BadPart_init) = some (.type "function"))
    (l_BadPart_init : K.lookup f_BadPart_init = some ⟨oc_BadPart_init, od_BadPart_init, .func (PySem.W.fnOf "__init__" "BadPart.__init__" (defArgs s_BadPart_init) (defBody s_BadPart_init) (defScope s_BadPart_init) .none kV_BadPart_init dc_BadPart_init pm_BadPart_init_ an_BadPart_init cd_BadPart_init ct_BadPart_init), sl_BadPart_init⟩)
    (c_BadPart_init : PySem.W.codeIn K cd_BadPart_init "BadPart.__init__" = true)
    (k_BadPart_init : PySem.W.keepIn K (.ref f_BadPart_init) = true)
    (a_BadRow_init : PySem.W.findIn K (.ref ABadRow) "__init__" = some (some (.ref f_BadRow_init)))
    (i_BadRow_init : PySem.W.typeIn K (.ref f_BadRow_init) = some (.type "function"))
    (l_BadRow_init : K.lookup f_BadRow_init = some ⟨oc_BadRow_init, od_BadRow_init, .func (PySem.W.fnOf "__init__" "BadRow.__init__" (defArgs s_BadRow_init) (defBody s_BadRow_init) (defScope s_BadRow_init) .none kV_BadRow_init dc_BadRow_init pm_BadRow_init_ an_BadRow_init cd_BadRow_init ct_BadRow_init), sl_BadRow_init⟩)
    (c_BadRow_init : PySem.W.codeIn K cd_BadRow_init "BadRow.__init__" = true)
    (k_BadRow_init : PySem.W.keepIn K (.ref f_BadRow_init) = true)
    (a_BadLetter_init : PySem.W.findIn K (.ref ABadLetter) "__init__" = some (some (.ref f_BadLetter_init)))
    (i_BadLetter_init : PySem.W.typeIn K (.ref f_BadLetter_init) = some (.type "function"))
    (l_BadLetter_init : K.lookup f_BadLetter_init = some ⟨oc_BadLetter_init, od_BadLetter_init, .func (PySem.W.fnOf "__init__" "BadLetter.__init__" (defArgs s_BadLetter_init) (defBody s_BadLetter_init) (defScope s_BadLetter_init) .none kV_BadLetter_init dc_BadLetter_init pm_BadLetter_init_ an_BadLetter_init cd_BadLetter_init ct_BadLetter_init), sl_BadLetter_init⟩)
    (c_BadLetter_init : PySem.W.codeIn K cd_BadLetter_init "BadLetter.__init__" = true)
    (k_BadLetter_init : PySem.W.keepIn K (.ref f_BadLetter_init) = true)
    (a_BadIndex_init : PySem.W.findIn K (.ref ABadIndex) "__init__" = some (some (.ref f_BadIndex_init)))
    (i_BadIndex_init : PySem.W.typeIn K (.ref f_BadIndex_init) = some (.type "function"))
    (l_BadIndex_init : K.lookup f_BadIndex_init = some ⟨oc_BadIndex_init, od_BadIndex_init, .func (PySem.W.fnOf "__init__" "BadIndex.__init__" (defArgs s_BadIndex_init) (defBody s_BadIndex_init) (defScope s_BadIndex_init) .none kV_BadIndex_init dc_BadIndex_init pm_BadIndex_init_ an_BadIndex_init cd_BadIndex_init ct_BadIndex_init), sl_BadIndex_init⟩)
    (c_BadIndex_init : PySem.W.codeIn K cd_BadIndex_init "BadIndex.__init__" = true)
    (k_BadIndex_init : PySem.W.keepIn K (.ref f_BadIndex_init) = true)
    (a_BadHead_init : PySem.W.findIn K (.ref ABadHead) "__init__" = some (some (.ref f_BadHead_init)))
    (i_BadHead_init : PySem.W.typeIn K (.ref f_BadHead_init) = some (.type "function"))
    (l_BadHead_init : K.lookup f_BadHead_init = some ⟨oc_BadHead_init, od_BadHead_init, .func (PySem.W.fnOf "__init__" "BadHead.__init__" (defArgs s_BadHead_init) (defBody s_BadHead_init) (defScope s_BadHead_init) .none kV_BadHead_init dc_BadHead_init pm_BadHead_init_ an_BadHead_init cd_BadHead_init ct_BadHead_init), sl_BadHead_init⟩)
    (c_BadHead_init : PySem.W.codeIn K cd_BadHead_init "BadHead.__init__" = true)
    (k_BadHead_init : PySem.W.keepIn K (.ref f_BadHead_init) = true)
    (a_TooMany_init : PySem.W.findIn K (.ref ATooMany) "__init__" = some (some (.ref f_TooMany_init)))
    (i_TooMany_init : PySem.W.typeIn K (.ref f_TooMany_init) = some (.type "function"))
    (l_TooMany_init : K.lookup f_TooMany_init = some ⟨oc_TooMany_init, od_TooMany_init, .func (PySem.W.fnOf "__init__" "TooMany.__init__" (defArgs s_TooMany_init) (defBody s_TooMany_init) (defScope s_TooMany_init) .none kV_TooMany_init dc_TooMany_init pm_TooMany_init_ an_TooMany_init cd_TooMany_init ct_TooMany_init), sl_TooMany_init⟩)
    (c_TooMany_init : PySem.W.codeIn K cd_TooMany_init "TooMany.__init__" = true)
    (k_TooMany_init : PySem.W.keepIn K (.ref f_TooMany_init) = true)
    (a_Mail_init : PySem.W.findIn K (.ref AMail) "__init__" = some (some (.ref f_Mail_init)))
    (i_Mail_init : PySem.W.isFn K (.ref f_Mail_init) = true)
    (l_Mail_init : K.lookup f_Mail_init = some ⟨oc_Mail_init, od_Mail_init, .func (PySem.W.fnOf "__init__" "Mail.__init__" (defArgs s_Mail_init) (defBody s_Mail_init) (defScope s_Mail_init) .none kV_Mail_init dc_Mail_init pm_Mail_init_ an_Mail_init cd_Mail_init ct_Mail_init), sl_Mail_init⟩)
    (c_Mail_init : PySem.W.codeIn K cd_Mail_init "Mail.__init__" = true)
    (k_Mail_init : PySem.W.keepIn K (.ref f_Mail_init) = true)
    (a_Mail_letters_told : PySem.W.findIn K (.ref AMail) "letters_told" = some (some (.ref f_Mail_letters_told)))
    (i_Mail_letters_told : PySem.W.isFn K (.ref f_Mail_letters_told) = true)
    (l_Mail_letters_told : K.lookup f_Mail_letters_told = some ⟨oc_Mail_letters_told, od_Mail_letters_told, .func (PySem.W.fnOf "letters_told" "Mail.letters_told" (defArgs s_Mail_letters_told) (defBody s_Mail_letters_told) (defScope s_Mail_letters_told) .none kV_Mail_letters_told dc_Mail_letters_told pm_Mail_letters_told_ an_Mail_letters_told cd_Mail_letters_told ct_Mail_letters_told), sl_Mail_letters_told⟩)
    (c_Mail_letters_told : PySem.W.codeIn K cd_Mail_letters_told "Mail.letters_told" = true)
    (k_Mail_letters_told : PySem.W.keepIn K (.ref f_Mail_letters_told) = true)
    (a_Mail_heads_told : PySem.W.findIn K (.ref AMail) "heads_told" = some (some (.ref f_Mail_heads_told)))
    (i_Mail_heads_told : PySem.W.isFn K (.ref f_Mail_heads_told) = true)
    (l_Mail_heads_told : K.lookup f_Mail_heads_told = some ⟨oc_Mail_heads_told, od_Mail_heads_told, .func (PySem.W.fnOf "heads_told" "Mail.heads_told" (defArgs s_Mail_heads_told) (defBody s_Mail_heads_told) (defScope s_Mail_heads_told) .none kV_Mail_heads_told dc_Mail_heads_told pm_Mail_heads_told_ an_Mail_heads_told cd_Mail_heads_told ct_Mail_heads_told), sl_Mail_heads_told⟩)
    (c_Mail_heads_told : PySem.W.codeIn K cd_Mail_heads_told "Mail.heads_told" = true)
    (k_Mail_heads_told : PySem.W.keepIn K (.ref f_Mail_heads_told) = true)
    (a_Mail_len : PySem.W.findIn K (.ref AMail) "__len__" = some (some (.ref f_Mail_len)))
    (i_Mail_len : PySem.W.isFn K (.ref f_Mail_len) = true)
    (l_Mail_len : K.lookup f_Mail_len = some ⟨oc_Mail_len, od_Mail_len, .func (PySem.W.fnOf "__len__" "Mail.__len__" (defArgs s_Mail_len) (defBody s_Mail_len) (defScope s_Mail_len) .none kV_Mail_len dc_Mail_len pm_Mail_len_ an_Mail_len cd_Mail_len ct_Mail_len), sl_Mail_len⟩)
    (c_Mail_len : PySem.W.codeIn K cd_Mail_len "Mail.__len__" = true)
    (k_Mail_len : PySem.W.keepIn K (.ref f_Mail_len) = true)
    (a_Mail_getitem : PySem.W.findIn K (.ref AMail) "__getitem__" = some (some (.ref f_Mail_getitem)))
    (i_Mail_getitem : PySem.W.isFn K (.ref f_Mail_getitem) = true)
    (l_Mail_getitem : K.lookup f_Mail_getitem = some ⟨oc_Mail_getitem, od_Mail_getitem, .func (PySem.W.fnOf "__getitem__" "Mail.__getitem__" (defArgs s_Mail_getitem) (defBody s_Mail_getitem) (defScope s_Mail_getitem) .none kV_Mail_getitem dc_Mail_getitem pm_Mail_getitem_ an_Mail_getitem cd_Mail_getitem ct_Mail_getitem), sl_Mail_getitem⟩)
    (c_Mail_getitem : PySem.W.codeIn K cd_Mail_getitem "Mail.__getitem__" = true)
    (k_Mail_getitem : PySem.W.keepIn K (.ref f_Mail_getitem) = true)
    (a_Mail_eq : PySem.W.findIn K (.ref AMail) "__eq__" = some (some (.ref f_Mail_eq)))
    (i_Mail_eq : PySem.W.isFn K (.ref f_Mail_eq) = true)
    (l_Mail_eq : K.lookup f_Mail_eq = some ⟨oc_Mail_eq, od_Mail_eq, .func (PySem.W.fnOf "__eq__" "Mail.__eq__" (defArgs s_Mail_eq) (defBody s_Mail_eq) (defScope s_Mail_eq) .none kV_Mail_eq dc_Mail_eq pm_Mail_eq_ an_Mail_eq cd_Mail_eq ct_Mail_eq), sl_Mail_eq⟩)
    (c_Mail_eq : PySem.W.codeIn K cd_Mail_eq "Mail.__eq__" = true)
    (k_Mail_eq : PySem.W.keepIn K (.ref f_Mail_eq) = true)
    (n_isinstance : PySem.W.nsIn K mainGlobals "isinstance" = some none)
    (n_int : PySem.W.nsIn K mainGlobals "int" = some none)
    (n_bool : PySem.W.nsIn K mainGlobals "bool" = some none)
    (n_str : PySem.W.nsIn K mainGlobals "str" = some none)
    (n_list : PySem.W.nsIn K mainGlobals "list" = some none)
    (n_tuple : PySem.W.nsIn K mainGlobals "tuple" = some none)
    (n_len : PySem.W.nsIn K mainGlobals "len" = some none)
    (n_range : PySem.W.nsIn K mainGlobals "range" = some none)
    (n_enumerate : PySem.W.nsIn K mainGlobals "enumerate" = some none)
    (n_all : PySem.W.nsIn K mainGlobals "all" = some none)
    (n_abs : PySem.W.nsIn K mainGlobals "abs" = some none)
    (n_sum : PySem.W.nsIn K mainGlobals "sum" = some none)
    (n_repr : PySem.W.nsIn K mainGlobals "repr" = some none)
    (n_set : PySem.W.nsIn K mainGlobals "set" = some none)
    (n_dict : PySem.W.nsIn K mainGlobals "dict" = some none)
    (n_zip : PySem.W.nsIn K mainGlobals "zip" = some none)
    (n_max : PySem.W.nsIn K mainGlobals "max" = some none)
    (v_ALPHABET : PySem.W.nsIn K mainGlobals "ALPHABET" = some (some (.str "abcdefghijklmnopqrstuvwxyz" t_ALPHABET)))
    (v_MOST_HEADS : PySem.W.nsIn K mainGlobals "MOST_HEADS" = some (some (.int 4 t_MOST_HEADS)))
    (v_MOST_BODY : PySem.W.nsIn K mainGlobals "MOST_BODY" = some (some (.int 60 t_MOST_BODY)))
    (v_MOST_LETTERS : PySem.W.nsIn K mainGlobals "MOST_LETTERS" = some (some (.int 6 t_MOST_LETTERS)))
    (v_MOST_ROWS : PySem.W.nsIn K mainGlobals "MOST_ROWS" = some (some (.int 3 t_MOST_ROWS)))
    (v_MOST_PLACES : PySem.W.nsIn K mainGlobals "MOST_PLACES" = some (some (.int 4 t_MOST_PLACES)))
    (s_hn : PySem.W.specialIn K (.builtin "object.__class__") "__get__" = some (some (.builtin "getset_descriptor.__get__")))
    (s_tk : PySem.W.takesIn K (.builtin "object.__class__") = some true)
    (pg_Mail : PySem.W.plainGet K AMail Str.empty = true)
    (hd_Mail : PySem.W.hasDictIn K AMail = true)
    (po_Mail : PySem.W.plainOver K AMail = true)
    (sa_Mail : PySem.W.findIn K (.ref AMail) "__setattr__" = some (some (.builtin "object.__setattr__")))
    (ha_Mail : PySem.W.findIn K (.ref AMail) "__class__" = some (some (.builtin "object.__class__")))
    (hm_Mail : PySem.W.mroIn K AMail (.type "object") = some true)
    (ne_Mail : PySem.W.findIn K (.ref AMail) "__ne__" = some (some (.builtin "object.__ne__")))
    (is_Mail : PySem.W.isClsIn K AMail = true)
    (ty_Mail : PySem.W.typeIn K (.ref AMail) = some (.type "type"))
    (tup_Mail : PySem.W.subIn K (.ref AMail) (.type "tuple") = some false)
    (lst_Mail : PySem.W.subIn K (.ref AMail) (.type "list") = some false)
    (int_Mail : PySem.W.subIn K (.ref AMail) (.type "int") = some false)
    (str_Mail : PySem.W.subIn K (.ref AMail) (.type "str") = some false)
    (mk_Mail : PySem.W.makesIn K AMail = true)
    (kc_Mail : PySem.W.keepIn K (.ref AMail) = true)
    (na_Mail_rows : PySem.W.findIn K (.ref AMail) "rows" = some none)
    (na_Mail_letters : PySem.W.findIn K (.ref AMail) "letters" = some none)
    (xBadPart_L : K.lookup ABadPart = some (excClassObj xBadPart_nm xBadPart_q ABadPart xBadPart_N xBadPart_bs [.ref AWholeError, .type "ValueError", .type "Exception", .type "BaseException", .type "object"] true xBadPart_sn xBadPart_sub xBadPart_ab xBadPart_col xBadPart_dd xBadPart_m0 xBadPart_m1 xBadPart_m2 xBadPart_m3 xBadPart_m5 "ValueError.__new__"))
    (xBadPart_sa : PySem.W.findIn K (.ref ABadPart) "__setattr__" = some (some (.builtin "object.__setattr__")))
    (xBadPart_ex : PySem.W.subIn K (.ref ABadPart) (.type "BaseException") = some true)
    (xBadPart_ty : PySem.W.typeIn K (.ref ABadPart) = some (.type "type"))
    (xBadPart_kC : PySem.W.keepIn K (.ref ABadPart) = true)
    (xBadPart_noA : PySem.W.findIn K (.ref ABadPart) "part" = some none)
    (xBadPart_hg : PySem.W.findIn K (.ref ABadPart) "__getattribute__" = some (some (.builtin "BaseException.__getattribute__")))
    (xBadPart_hk : PySem.W.findIn K (.ref ABadPart) "__getattr__" = some none)
    (xBadPart_hd : PySem.W.hasDictIn K ABadPart = true)
    (xBadPart_ha : PySem.W.findIn K (.ref ABadPart) "__class__" = some (some (.builtin "object.__class__")))
    (xBadPart_hm : PySem.W.mroIn K ABadPart (.type "object") = some true)
    (xBadPart_is : PySem.W.isClsIn K ABadPart = true)
    (xBadPart_ss : PySem.W.subIn K (.ref ABadPart) (.ref ABadPart) = some true)
    (xBadPart_w : PySem.W.subIn K (.ref ABadPart) (.ref AWholeError) = some true)
    (xBadRow_L : K.lookup ABadRow = some (excClassObj xBadRow_nm xBadRow_q ABadRow xBadRow_N xBadRow_bs [.ref AWholeError, .type "ValueError", .type "Exception", .type "BaseException", .type "object"] true xBadRow_sn xBadRow_sub xBadRow_ab xBadRow_col xBadRow_dd xBadRow_m0 xBadRow_m1 xBadRow_m2 xBadRow_m3 xBadRow_m5 "ValueError.__new__"))
    (xBadRow_sa : PySem.W.findIn K (.ref ABadRow) "__setattr__" = some (some (.builtin "object.__setattr__")))
    (xBadRow_ex : PySem.W.subIn K (.ref ABadRow) (.type "BaseException") = some true)
    (xBadRow_ty : PySem.W.typeIn K (.ref ABadRow) = some (.type "type"))
    (xBadRow_kC : PySem.W.keepIn K (.ref ABadRow) = true)
    (xBadRow_noA : PySem.W.findIn K (.ref ABadRow) "index" = some none)
    (xBadRow_hg : PySem.W.findIn K (.ref ABadRow) "__getattribute__" = some (some (.builtin "BaseException.__getattribute__")))
    (xBadRow_hk : PySem.W.findIn K (.ref ABadRow) "__getattr__" = some none)
    (xBadRow_hd : PySem.W.hasDictIn K ABadRow = true)
    (xBadRow_ha : PySem.W.findIn K (.ref ABadRow) "__class__" = some (some (.builtin "object.__class__")))
    (xBadRow_hm : PySem.W.mroIn K ABadRow (.type "object") = some true)
    (xBadRow_is : PySem.W.isClsIn K ABadRow = true)
    (xBadRow_ss : PySem.W.subIn K (.ref ABadRow) (.ref ABadRow) = some true)
    (xBadRow_w : PySem.W.subIn K (.ref ABadRow) (.ref AWholeError) = some true)
    (xBadLetter_L : K.lookup ABadLetter = some (excClassObj xBadLetter_nm xBadLetter_q ABadLetter xBadLetter_N xBadLetter_bs [.ref AWholeError, .type "ValueError", .type "Exception", .type "BaseException", .type "object"] true xBadLetter_sn xBadLetter_sub xBadLetter_ab xBadLetter_col xBadLetter_dd xBadLetter_m0 xBadLetter_m1 xBadLetter_m2 xBadLetter_m3 xBadLetter_m5 "ValueError.__new__"))
    (xBadLetter_sa : PySem.W.findIn K (.ref ABadLetter) "__setattr__" = some (some (.builtin "object.__setattr__")))
    (xBadLetter_ex : PySem.W.subIn K (.ref ABadLetter) (.type "BaseException") = some true)
    (xBadLetter_ty : PySem.W.typeIn K (.ref ABadLetter) = some (.type "type"))
    (xBadLetter_kC : PySem.W.keepIn K (.ref ABadLetter) = true)
    (xBadLetter_noA : PySem.W.findIn K (.ref ABadLetter) "spot" = some none)
    (xBadLetter_hg : PySem.W.findIn K (.ref ABadLetter) "__getattribute__" = some (some (.builtin "BaseException.__getattribute__")))
    (xBadLetter_hk : PySem.W.findIn K (.ref ABadLetter) "__getattr__" = some none)
    (xBadLetter_hd : PySem.W.hasDictIn K ABadLetter = true)
    (xBadLetter_ha : PySem.W.findIn K (.ref ABadLetter) "__class__" = some (some (.builtin "object.__class__")))
    (xBadLetter_hm : PySem.W.mroIn K ABadLetter (.type "object") = some true)
    (xBadLetter_is : PySem.W.isClsIn K ABadLetter = true)
    (xBadLetter_ss : PySem.W.subIn K (.ref ABadLetter) (.ref ABadLetter) = some true)
    (xBadLetter_w : PySem.W.subIn K (.ref ABadLetter) (.ref AWholeError) = some true)
    (xBadIndex_L : K.lookup ABadIndex = some (excClassObj xBadIndex_nm xBadIndex_q ABadIndex xBadIndex_N xBadIndex_bs [.ref AWholeError, .type "ValueError", .type "Exception", .type "BaseException", .type "object"] true xBadIndex_sn xBadIndex_sub xBadIndex_ab xBadIndex_col xBadIndex_dd xBadIndex_m0 xBadIndex_m1 xBadIndex_m2 xBadIndex_m3 xBadIndex_m5 "ValueError.__new__"))
    (xBadIndex_sa : PySem.W.findIn K (.ref ABadIndex) "__setattr__" = some (some (.builtin "object.__setattr__")))
    (xBadIndex_ex : PySem.W.subIn K (.ref ABadIndex) (.type "BaseException") = some true)
    (xBadIndex_ty : PySem.W.typeIn K (.ref ABadIndex) = some (.type "type"))
    (xBadIndex_kC : PySem.W.keepIn K (.ref ABadIndex) = true)
    (xBadIndex_noA : PySem.W.findIn K (.ref ABadIndex) "index" = some none)
    (xBadIndex_hg : PySem.W.findIn K (.ref ABadIndex) "__getattribute__" = some (some (.builtin "BaseException.__getattribute__")))
    (xBadIndex_hk : PySem.W.findIn K (.ref ABadIndex) "__getattr__" = some none)
    (xBadIndex_hd : PySem.W.hasDictIn K ABadIndex = true)
    (xBadIndex_ha : PySem.W.findIn K (.ref ABadIndex) "__class__" = some (some (.builtin "object.__class__")))
    (xBadIndex_hm : PySem.W.mroIn K ABadIndex (.type "object") = some true)
    (xBadIndex_is : PySem.W.isClsIn K ABadIndex = true)
    (xBadIndex_ss : PySem.W.subIn K (.ref ABadIndex) (.ref ABadIndex) = some true)
    (xBadIndex_w : PySem.W.subIn K (.ref ABadIndex) (.ref AWholeError) = some true)
    (xBadHead_L : K.lookup ABadHead = some (excClassObj xBadHead_nm xBadHead_q ABadHead xBadHead_N xBadHead_bs [.ref AWholeError, .type "ValueError", .type "Exception", .type "BaseException", .type "object"] true xBadHead_sn xBadHead_sub xBadHead_ab xBadHead_col xBadHead_dd xBadHead_m0 xBadHead_m1 xBadHead_m2 xBadHead_m3 xBadHead_m5 "ValueError.__new__"))
    (xBadHead_sa : PySem.W.findIn K (.ref ABadHead) "__setattr__" = some (some (.builtin "object.__setattr__")))
    (xBadHead_ex : PySem.W.subIn K (.ref ABadHead) (.type "BaseException") = some true)
    (xBadHead_ty : PySem.W.typeIn K (.ref ABadHead) = some (.type "type"))
    (xBadHead_kC : PySem.W.keepIn K (.ref ABadHead) = true)
    (xBadHead_noA : PySem.W.findIn K (.ref ABadHead) "index" = some none)
    (xBadHead_hg : PySem.W.findIn K (.ref ABadHead) "__getattribute__" = some (some (.builtin "BaseException.__getattribute__")))
    (xBadHead_hk : PySem.W.findIn K (.ref ABadHead) "__getattr__" = some none)
    (xBadHead_hd : PySem.W.hasDictIn K ABadHead = true)
    (xBadHead_ha : PySem.W.findIn K (.ref ABadHead) "__class__" = some (some (.builtin "object.__class__")))
    (xBadHead_hm : PySem.W.mroIn K ABadHead (.type "object") = some true)
    (xBadHead_is : PySem.W.isClsIn K ABadHead = true)
    (xBadHead_ss : PySem.W.subIn K (.ref ABadHead) (.ref ABadHead) = some true)
    (xBadHead_w : PySem.W.subIn K (.ref ABadHead) (.ref AWholeError) = some true)
    (xTooMany_L : K.lookup ATooMany = some (excClassObj xTooMany_nm xTooMany_q ATooMany xTooMany_N xTooMany_bs [.type "OverflowError", .type "ArithmeticError", .type "Exception", .type "BaseException", .type "object"] true xTooMany_sn xTooMany_sub xTooMany_ab xTooMany_col xTooMany_dd xTooMany_m0 xTooMany_m1 xTooMany_m2 xTooMany_m3 xTooMany_m5 "OverflowError.__new__"))
    (xTooMany_sa : PySem.W.findIn K (.ref ATooMany) "__setattr__" = some (some (.builtin "object.__setattr__")))
    (xTooMany_ex : PySem.W.subIn K (.ref ATooMany) (.type "BaseException") = some true)
    (xTooMany_ty : PySem.W.typeIn K (.ref ATooMany) = some (.type "type"))
    (xTooMany_kC : PySem.W.keepIn K (.ref ATooMany) = true)
    (xTooMany_noA : PySem.W.findIn K (.ref ATooMany) "limit" = some none)
    (xTooMany_hg : PySem.W.findIn K (.ref ATooMany) "__getattribute__" = some (some (.builtin "BaseException.__getattribute__")))
    (xTooMany_hk : PySem.W.findIn K (.ref ATooMany) "__getattr__" = some none)
    (xTooMany_hd : PySem.W.hasDictIn K ATooMany = true)
    (xTooMany_ha : PySem.W.findIn K (.ref ATooMany) "__class__" = some (some (.builtin "object.__class__")))
    (xTooMany_hm : PySem.W.mroIn K ATooMany (.type "object") = some true)
    (xTooMany_is : PySem.W.isClsIn K ATooMany = true)
    (xTooMany_ss : PySem.W.subIn K (.ref ATooMany) (.ref ATooMany) = some true)
    (r_c_get : PySem.W.fnIn K f_Mail_getitem = true)
    (xo_BadPart_BadHead : PySem.W.subIn K (.ref ABadPart) (.ref ABadHead) = some false)
    (xw_i : PySem.W.isClsIn K AWholeError = true)
    (xw_t : PySem.W.typeIn K (.ref AWholeError) = some (.type "type"))
    (xw_b : PySem.W.subIn K (.ref AWholeError) (.type "BaseException") = some true)
    : ∃ fd : FuncData, (∀ (s : Shared) (v : Value), BindsTo s fd ⟨[v], []⟩ [("_law_script", v)]) ∧ ∀ base : Heap, K.In base → base.Ns mainGlobals mg → FnOk P w K mg base CX0 14 fa fd ["_law_script"] (spLaw K) := by
  have e := hfa.symm.trans (PySem.W.mg_of X G a_law)
  cases e
  have F_is_integer := fun_mk (st := s_is_integer) l_is_integer c_is_integer k_is_integer
  have D_is_integer : DefAt K mg "is_integer" s_is_integer pm_is_integer := ⟨_, _, F_is_integer, PySem.W.mg_of X G a_is_integer, F_is_integer.binds (ps := pm_is_integer) fun _ _ _ _ _ _ us hl => match us, hl with | [_], _ => rfl⟩
  have F_is_between := fun_mk (st := s_is_between) l_is_between c_is_between k_is_between
  have D_is_between : DefAt K mg "is_between" s_is_between pm_is_between := ⟨_, _, F_is_between, PySem.W.mg_of X G a_is_between, F_is_between.binds (ps := pm_is_between) fun _ _ _ _ _ _ us hl => match us, hl with | [_, _, _], _ => rfl⟩
  have F_is_index := fun_mk (st := s_is_index) l_is_index c_is_index k_is_index
  have D_is_index : DefAt K mg "is_index" s_is_index pm_is_index := ⟨_, _, F_is_index, PySem.W.mg_of X G a_is_index, F_is_index.binds (ps := pm_is_index) fun _ _ _ _ _ _ us hl => match us, hl with | [_, _], _ => rfl⟩
  have F_is_list := fun_mk (st := s_is_list) l_is_list c_is_list k_is_list
  have D_is_list : DefAt K mg "is_list" s_is_list pm_is_list := ⟨_, _, F_is_list, PySem.W.mg_of X G a_is_list, F_is_list.binds (ps := pm_is_list) fun _ _ _ _ _ _ us hl => match us, hl with | [_], _ => rfl⟩
  have F_is_name := fun_mk (st := s_is_name) l_is_name c_is_name k_is_name
  have D_is_name : DefAt K mg "is_name" s_is_name pm_is_name := ⟨_, _, F_is_name, PySem.W.mg_of X G a_is_name, F_is_name.binds (ps := pm_is_name) fun _ _ _ _ _ _ us hl => match us, hl with | [_], _ => rfl⟩
  have F_is_tuple_of := fun_mk (st := s_is_tuple_of) l_is_tuple_of c_is_tuple_of k_is_tuple_of
  have D_is_tuple_of : DefAt K mg "is_tuple_of" s_is_tuple_of pm_is_tuple_of := ⟨_, _, F_is_tuple_of, PySem.W.mg_of X G a_is_tuple_of, F_is_tuple_of.binds (ps := pm_is_tuple_of) fun _ _ _ _ _ _ us hl => match us, hl with | [_, _], _ => rfl⟩
  have F_is_letter := fun_mk (st := s_is_letter) l_is_letter c_is_letter k_is_letter
  have D_is_letter : DefAt K mg "is_letter" s_is_letter pm_is_letter := ⟨_, _, F_is_letter, PySem.W.mg_of X G a_is_letter, F_is_letter.binds (ps := pm_is_letter) fun _ _ _ _ _ _ us hl => match us, hl with | [_], _ => rfl⟩
  have F_check_heads := fun_mk (st := s_check_heads) l_check_heads c_check_heads k_check_heads
  have D_check_heads : DefAt K mg "check_heads" s_check_heads pm_check_heads := ⟨_, _, F_check_heads, PySem.W.mg_of X G a_check_heads, F_check_heads.binds (ps := pm_check_heads) fun _ _ _ _ _ _ us hl => match us, hl with | [_], _ => rfl⟩
  have F_check_row := fun_mk (st := s_check_row) l_check_row c_check_row k_check_row
  have D_check_row : DefAt K mg "check_row" s_check_row pm_check_row := ⟨_, _, F_check_row, PySem.W.mg_of X G a_check_row, F_check_row.binds (ps := pm_check_row) fun _ _ _ _ _ _ us hl => match us, hl with | [_, _], _ => rfl⟩
  have F_check_places := fun_mk (st := s_check_places) l_check_places c_check_places k_check_places
  have D_check_places : DefAt K mg "check_places" s_check_places pm_check_places := ⟨_, _, F_check_places, PySem.W.mg_of X G a_check_places, F_check_places.binds (ps := pm_check_places) fun _ _ _ _ _ _ us hl => match us, hl with | [_], _ => rfl⟩
  have F_check_mail := fun_mk (st := s_check_mail) l_check_mail c_check_mail k_check_mail
  have D_check_mail : DefAt K mg "check_mail" s_check_mail pm_check_mail := ⟨_, _, F_check_mail, PySem.W.mg_of X G a_check_mail, F_check_mail.binds (ps := pm_check_mail) fun _ _ _ _ _ _ us hl => match us, hl with | [_], _ => rfl⟩
  have F_check_cost := fun_mk (st := s_check_cost) l_check_cost c_check_cost k_check_cost
  have D_check_cost : DefAt K mg "check_cost" s_check_cost pm_check_cost := ⟨_, _, F_check_cost, PySem.W.mg_of X G a_check_cost, F_check_cost.binds (ps := pm_check_cost) fun _ _ _ _ _ _ us hl => match us, hl with | [_], _ => rfl⟩
  have F_distances := fun_mk (st := s_distances) l_distances c_distances k_distances
  have D_distances : DefAt K mg "distances" s_distances pm_distances := ⟨_, _, F_distances, PySem.W.mg_of X G a_distances, F_distances.binds (ps := pm_distances) fun _ _ _ _ _ _ us hl => match us, hl with | [_], _ => rfl⟩
  have F_distance_at := fun_mk (st := s_distance_at) l_distance_at c_distance_at k_distance_at
  have D_distance_at : DefAt K mg "distance_at" s_distance_at pm_distance_at := ⟨_, _, F_distance_at, PySem.W.mg_of X G a_distance_at, F_distance_at.binds (ps := pm_distance_at) fun _ _ _ _ _ _ us hl => match us, hl with | [_, _], _ => rfl⟩
  have F_shorts := fun_mk (st := s_shorts) l_shorts c_shorts k_shorts
  have D_shorts : DefAt K mg "shorts" s_shorts pm_shorts := ⟨_, _, F_shorts, PySem.W.mg_of X G a_shorts, F_shorts.binds (ps := pm_shorts) fun _ _ _ _ _ _ us hl => match us, hl with | [_, _], _ => rfl⟩
  have F_is_near := fun_mk (st := s_is_near) l_is_near c_is_near k_is_near
  have D_is_near : DefAt K mg "is_near" s_is_near pm_is_near := ⟨_, _, F_is_near, PySem.W.mg_of X G a_is_near, F_is_near.binds (ps := pm_is_near) fun _ _ _ _ _ _ us hl => match us, hl with | [_, _], _ => rfl⟩
  have F_letter_lengths := fun_mk (st := s_letter_lengths) l_letter_lengths c_letter_lengths k_letter_lengths
  have D_letter_lengths : DefAt K mg "letter_lengths" s_letter_lengths pm_letter_lengths := ⟨_, _, F_letter_lengths, PySem.W.mg_of X G a_letter_lengths, F_letter_lengths.binds (ps := pm_letter_lengths) fun _ _ _ _ _ _ us hl => match us, hl with | [_, _, _], _ => rfl⟩
  have F_places_for := fun_mk (st := s_places_for) l_places_for c_places_for k_places_for
  have D_places_for : DefAt K mg "places_for" s_places_for pm_places_for := ⟨_, _, F_places_for, PySem.W.mg_of X G a_places_for, F_places_for.binds (ps := pm_places_for) fun _ _ _ _ _ _ us hl => match us, hl with | [_, _, _], _ => rfl⟩
  have F__law_pool := fun_mk (st := s__law_pool) l__law_pool c__law_pool k__law_pool
  have D__law_pool : DefAt K mg "_law_pool" s__law_pool pm__law_pool := ⟨_, _, F__law_pool, PySem.W.mg_of X G a__law_pool, F__law_pool.binds (ps := pm__law_pool) fun _ _ _ _ _ _ us hl => match us, hl with | [_, _], _ => rfl⟩
  have F__law_draw := fun_mk (st := s__law_draw) l__law_draw c__law_draw k__law_draw
  have D__law_draw : DefAt K mg "_law_draw" s__law_draw pm__law_draw := ⟨_, _, F__law_draw, PySem.W.mg_of X G a__law_draw, F__law_draw.binds (ps := pm__law_draw) fun _ _ _ _ _ _ us hl => match us, hl with | [_, _], _ => rfl⟩
  have F__law_pick := fun_mk (st := s__law_pick) l__law_pick c__law_pick k__law_pick
  have D__law_pick : DefAt K mg "_law_pick" s__law_pick pm__law_pick := ⟨_, _, F__law_pick, PySem.W.mg_of X G a__law_pick, F__law_pick.binds (ps := pm__law_pick) fun _ _ _ _ _ _ us hl => match us, hl with | [_, _], _ => rfl⟩
  have F__law_heads := fun_mk (st := s__law_heads) l__law_heads c__law_heads k__law_heads
  have D__law_heads : DefAt K mg "_law_heads" s__law_heads pm__law_heads := ⟨_, _, F__law_heads, PySem.W.mg_of X G a__law_heads, F__law_heads.binds (ps := pm__law_heads) fun _ _ _ _ _ _ us hl => match us, hl with | [_, _, _], _ => rfl⟩
  have F__law_used := fun_mk (st := s__law_used) l__law_used c__law_used k__law_used
  have D__law_used : DefAt K mg "_law_used" s__law_used pm__law_used := ⟨_, _, F__law_used, PySem.W.mg_of X G a__law_used, F__law_used.binds (ps := pm__law_used) fun _ _ _ _ _ _ us hl => match us, hl with | [_, _, _], _ => rfl⟩
  have F__law_shorts := fun_mk (st := s__law_shorts) l__law_shorts c__law_shorts k__law_shorts
  have D__law_shorts : DefAt K mg "_law_shorts" s__law_shorts pm__law_shorts := ⟨_, _, F__law_shorts, PySem.W.mg_of X G a__law_shorts, F__law_shorts.binds (ps := pm__law_shorts) fun _ _ _ _ _ _ us hl => match us, hl with | [_, _], _ => rfl⟩
  have F__law_distances := fun_mk (st := s__law_distances) l__law_distances c__law_distances k__law_distances
  have D__law_distances : DefAt K mg "_law_distances" s__law_distances pm__law_distances := ⟨_, _, F__law_distances, PySem.W.mg_of X G a__law_distances, F__law_distances.binds (ps := pm__law_distances) fun _ _ _ _ _ _ us hl => match us, hl with | [_], _ => rfl⟩
  have F__law_joined := fun_mk (st := s__law_joined) l__law_joined c__law_joined k__law_joined
  have D__law_joined : DefAt K mg "_law_joined" s__law_joined pm__law_joined := ⟨_, _, F__law_joined, PySem.W.mg_of X G a__law_joined, F__law_joined.binds (ps := pm__law_joined) fun _ _ _ _ _ _ us hl => match us, hl with | [_], _ => rfl⟩
  have F__law_lengths := fun_mk (st := s__law_lengths) l__law_lengths c__law_lengths k__law_lengths
  have D__law_lengths : DefAt K mg "_law_lengths" s__law_lengths pm__law_lengths := ⟨_, _, F__law_lengths, PySem.W.mg_of X G a__law_lengths, F__law_lengths.binds (ps := pm__law_lengths) fun _ _ _ _ _ _ us hl => match us, hl with | [_, _, _], _ => rfl⟩
  have F__law_called := fun_mk (st := s__law_called) l__law_called c__law_called k__law_called
  have D__law_called : DefAt K mg "_law_called" s__law_called pm__law_called := ⟨_, _, F__law_called, PySem.W.mg_of X G a__law_called, F__law_called.binds (ps := pm__law_called) fun _ _ _ _ _ _ us hl => match us, hl with | [_, _, _, _], _ => rfl⟩
  have F__law_refused := fun_mk (st := s__law_refused) l__law_refused c__law_refused k__law_refused
  have D__law_refused : DefAt K mg "_law_refused" s__law_refused pm__law_refused := ⟨_, _, F__law_refused, PySem.W.mg_of X G a__law_refused, F__law_refused.binds (ps := pm__law_refused) fun _ _ _ _ _ _ us hl => match us, hl with | [_, _, _, _], _ => rfl⟩
  have F__law_odds_refused := fun_mk (st := s__law_odds_refused) l__law_odds_refused c__law_odds_refused k__law_odds_refused
  have D__law_odds_refused : DefAt K mg "_law_odds_refused" s__law_odds_refused pm__law_odds_refused := ⟨_, _, F__law_odds_refused, PySem.W.mg_of X G a__law_odds_refused, F__law_odds_refused.binds (ps := pm__law_odds_refused) fun _ _ _ _ _ _ us hl => match us, hl with | [_, _], _ => rfl⟩
  have F__law_places_right := fun_mk (st := s__law_places_right) l__law_places_right c__law_places_right k__law_places_right
  have D__law_places_right : DefAt K mg "_law_places_right" s__law_places_right pm__law_places_right := ⟨_, _, F__law_places_right, PySem.W.mg_of X G a__law_places_right, F__law_places_right.binds (ps := pm__law_places_right) fun _ _ _ _ _ _ us hl => match us, hl with | [_, _, _, _, _], _ => rfl⟩
  have F_BadPart_init := fun_mk (st := s_BadPart_init) l_BadPart_init c_BadPart_init k_BadPart_init
  have F_BadRow_init := fun_mk (st := s_BadRow_init) l_BadRow_init c_BadRow_init k_BadRow_init
  have F_BadLetter_init := fun_mk (st := s_BadLetter_init) l_BadLetter_init c_BadLetter_init k_BadLetter_init
  have F_BadIndex_init := fun_mk (st := s_BadIndex_init) l_BadIndex_init c_BadIndex_init k_BadIndex_init
  have F_BadHead_init := fun_mk (st := s_BadHead_init) l_BadHead_init c_BadHead_init k_BadHead_init
  have F_TooMany_init := fun_mk (st := s_TooMany_init) l_TooMany_init c_TooMany_init k_TooMany_init
  have F_Mail_init := fun_mk (st := s_Mail_init) l_Mail_init c_Mail_init k_Mail_init
  have M_Mail_init : MethAt K AMail "__init__" "Mail.__init__" s_Mail_init pm_Mail_init := ⟨_, _, F_Mail_init, a_Mail_init, i_Mail_init, F_Mail_init.binds (ps := pm_Mail_init) fun _ _ _ _ _ _ us hl => match us, hl with | [_, _], _ => rfl⟩
  have F_Mail_letters_told := fun_mk (st := s_Mail_letters_told) l_Mail_letters_told c_Mail_letters_told k_Mail_letters_told
  have M_Mail_letters_told : MethAt K AMail "letters_told" "Mail.letters_told" s_Mail_letters_told pm_Mail_letters_told := ⟨_, _, F_Mail_letters_told, a_Mail_letters_told, i_Mail_letters_told, F_Mail_letters_told.binds (ps := pm_Mail_letters_told) fun _ _ _ _ _ _ us hl => match us, hl with | [_], _ => rfl⟩
  have F_Mail_heads_told := fun_mk (st := s_Mail_heads_told) l_Mail_heads_told c_Mail_heads_told k_Mail_heads_told
  have M_Mail_heads_told : MethAt K AMail "heads_told" "Mail.heads_told" s_Mail_heads_told pm_Mail_heads_told := ⟨_, _, F_Mail_heads_told, a_Mail_heads_told, i_Mail_heads_told, F_Mail_heads_told.binds (ps := pm_Mail_heads_told) fun _ _ _ _ _ _ us hl => match us, hl with | [_], _ => rfl⟩
  have F_Mail_len := fun_mk (st := s_Mail_len) l_Mail_len c_Mail_len k_Mail_len
  have M_Mail_len : MethAt K AMail "__len__" "Mail.__len__" s_Mail_len pm_Mail_len := ⟨_, _, F_Mail_len, a_Mail_len, i_Mail_len, F_Mail_len.binds (ps := pm_Mail_len) fun _ _ _ _ _ _ us hl => match us, hl with | [_], _ => rfl⟩
  have F_Mail_getitem := fun_mk (st := s_Mail_getitem) l_Mail_getitem c_Mail_getitem k_Mail_getitem
  have M_Mail_getitem : MethAt K AMail "__getitem__" "Mail.__getitem__" s_Mail_getitem pm_Mail_getitem := ⟨_, _, F_Mail_getitem, a_Mail_getitem, i_Mail_getitem, F_Mail_getitem.binds (ps := pm_Mail_getitem) fun _ _ _ _ _ _ us hl => match us, hl with | [_, _], _ => rfl⟩
  have F_Mail_eq := fun_mk (st := s_Mail_eq) l_Mail_eq c_Mail_eq k_Mail_eq
  have M_Mail_eq : MethAt K AMail "__eq__" "Mail.__eq__" s_Mail_eq pm_Mail_eq := ⟨_, _, F_Mail_eq, a_Mail_eq, i_Mail_eq, F_Mail_eq.binds (ps := pm_Mail_eq) fun _ _ _ _ _ _ us hl => match us, hl with | [_, _], _ => rfl⟩
  have T : Txt K mg ⟨ABadPart, ABadRow, ABadLetter, ABadIndex, ABadHead, ATooMany, AWholeError, AMail⟩ :=
    { n_isinstance := PySem.W.mg_none_of X G n_isinstance,
      n_int := PySem.W.mg_none_of X G n_int,
      n_bool := PySem.W.mg_none_of X G n_bool,
      n_str := PySem.W.mg_none_of X G n_str,
      n_list := PySem.W.mg_none_of X G n_list,
      n_tuple := PySem.W.mg_none_of X G n_tuple,
      n_len := PySem.W.mg_none_of X G n_len,
      n_range := PySem.W.mg_none_of X G n_range,
      n_enumerate := PySem.W.mg_none_of X G n_enumerate,
      n_all := PySem.W.mg_none_of X G n_all,
      n_abs := PySem.W.mg_none_of X G n_abs,
      n_sum := PySem.W.mg_none_of X G n_sum,
      n_repr := PySem.W.mg_none_of X G n_repr,
      n_set := PySem.W.mg_none_of X G n_set,
      n_dict := PySem.W.mg_none_of X G n_dict,
      n_zip := PySem.W.mg_none_of X G n_zip,
      n_max := PySem.W.mg_none_of X G n_max,
      g_ALPHABET := ⟨_, PySem.W.mg_of X G v_ALPHABET⟩,
      g_MOST_HEADS := ⟨_, PySem.W.mg_of X G v_MOST_HEADS⟩,
      g_MOST_BODY := ⟨_, PySem.W.mg_of X G v_MOST_BODY⟩,
      g_MOST_LETTERS := ⟨_, PySem.W.mg_of X G v_MOST_LETTERS⟩,
      g_MOST_ROWS := ⟨_, PySem.W.mg_of X G v_MOST_ROWS⟩,
      g_MOST_PLACES := ⟨_, PySem.W.mg_of X G v_MOST_PLACES⟩,
      Mail := ⟨PySem.W.mg_of X G g_Mail, ⟨pg_Mail, hd_Mail, po_Mail, sa_Mail⟩, ha_Mail, s_hn, s_tk, hm_Mail, ne_Mail, is_Mail, ty_Mail, tup_Mail, lst_Mail, int_Mail, str_Mail⟩,
      m_rows := na_Mail_rows,
      m_letters := na_Mail_letters,
      BadPart := ⟨⟨⟨_, _, _, _, _, _, _, _, _, _, _, _, _, _, _, xBadPart_L, ve_one⟩, xBadPart_sa, xBadPart_ex, xBadPart_ty, xBadPart_kC⟩, PySem.W.mg_of X G g_BadPart, xBadPart_noA, ⟨xBadPart_hg, xBadPart_hk, xBadPart_ex, xBadPart_hd, xBadPart_ha, s_hn, s_tk, xBadPart_hm⟩, _, a_BadPart_init, i_BadPart_init, _, F_BadPart_init, F_BadPart_init.binds (ps := ["self", "part"]) fun _ _ _ _ _ _ us hl => match us, hl with | [_, _], _ => rfl⟩,
      BadRow := ⟨⟨⟨_, _, _, _, _, _, _, _, _, _, _, _, _, _, _, xBadRow_L, ve_one⟩, xBadRow_sa, xBadRow_ex, xBadRow_ty, xBadRow_kC⟩, PySem.W.mg_of X G g_BadRow, xBadRow_noA, ⟨xBadRow_hg, xBadRow_hk, xBadRow_ex, xBadRow_hd, xBadRow_ha, s_hn, s_tk, xBadRow_hm⟩, _, a_BadRow_init, i_BadRow_init, _, F_BadRow_init, F_BadRow_init.binds (ps := ["self", "index"]) fun _ _ _ _ _ _ us hl => match us, hl with | [_, _], _ => rfl⟩,
      BadLetter := ⟨⟨⟨_, _, _, _, _, _, _, _, _, _, _, _, _, _, _, xBadLetter_L, ve_one⟩, xBadLetter_sa, xBadLetter_ex, xBadLetter_ty, xBadLetter_kC⟩, PySem.W.mg_of X G g_BadLetter, xBadLetter_noA, ⟨xBadLetter_hg, xBadLetter_hk, xBadLetter_ex, xBadLetter_hd, xBadLetter_ha, s_hn, s_tk, xBadLetter_hm⟩, _, a_BadLetter_init, i_BadLetter_init, _, F_BadLetter_init, F_BadLetter_init.binds (ps := ["self", "spot"]) fun _ _ _ _ _ _ us hl => match us, hl with | [_, _], _ => rfl⟩,
      BadIndex := ⟨⟨⟨_, _, _, _, _, _, _, _, _, _, _, _, _, _, _, xBadIndex_L, ve_one⟩, xBadIndex_sa, xBadIndex_ex, xBadIndex_ty, xBadIndex_kC⟩, PySem.W.mg_of X G g_BadIndex, xBadIndex_noA, ⟨xBadIndex_hg, xBadIndex_hk, xBadIndex_ex, xBadIndex_hd, xBadIndex_ha, s_hn, s_tk, xBadIndex_hm⟩, _, a_BadIndex_init, i_BadIndex_init, _, F_BadIndex_init, F_BadIndex_init.binds (ps := ["self", "index"]) fun _ _ _ _ _ _ us hl => match us, hl with | [_, _], _ => rfl⟩,
      BadHead := ⟨⟨⟨_, _, _, _, _, _, _, _, _, _, _, _, _, _, _, xBadHead_L, ve_one⟩, xBadHead_sa, xBadHead_ex, xBadHead_ty, xBadHead_kC⟩, PySem.W.mg_of X G g_BadHead, xBadHead_noA, ⟨xBadHead_hg, xBadHead_hk, xBadHead_ex, xBadHead_hd, xBadHead_ha, s_hn, s_tk, xBadHead_hm⟩, _, a_BadHead_init, i_BadHead_init, _, F_BadHead_init, F_BadHead_init.binds (ps := ["self", "index"]) fun _ _ _ _ _ _ us hl => match us, hl with | [_, _], _ => rfl⟩,
      TooMany := ⟨⟨⟨_, _, _, _, _, _, _, _, _, _, _, _, _, _, xTooMany_L⟩, xTooMany_sa, xTooMany_ex, xTooMany_ty, xTooMany_kC⟩, PySem.W.mg_of X G g_TooMany, xTooMany_noA, ⟨xTooMany_hg, xTooMany_hk, xTooMany_ex, xTooMany_hd, xTooMany_ha, s_hn, s_tk, xTooMany_hm⟩, _, a_TooMany_init, i_TooMany_init, _, F_TooMany_init, F_TooMany_init.binds (ps := ["self", "limit"]) fun _ _ _ _ _ _ us hl => match us, hl with | [_, _], _ => rfl⟩,
      c_get := fun g h => by rw [a_Mail_getitem] at h; cases h; exact r_c_get,
      x_hh := exm_ref xBadHead_ex xBadHead_is xBadHead_ty xBadHead_ss,
      x_ph := exm_ref xBadHead_ex xBadHead_is xBadHead_ty xo_BadPart_BadHead,
      x_pp := exm_ref xBadPart_ex xBadPart_is xBadPart_ty xBadPart_ss }
  exact ⟨PySem.W.fnOf "law" "law" (defArgs s_law) (defBody s_law) (defScope s_law) .none kV_law dc_law pm_law_ an_law cd_law ct_law, fun s v => .of_eq rfl, fun base _ _ =>
    law_ok T D_is_integer D_is_between D_is_index D_is_list D_is_name D_is_tuple_of D_is_letter D_check_heads D_check_row D_check_places D_check_mail D_check_cost D_distances D_distance_at D_shorts D_is_near D_letter_lengths D_places_for D__law_pool D__law_draw D__law_pick D__law_heads D__law_used D__law_shorts D__law_distances D__law_joined D__law_lengths D__law_called D__law_refused D__law_odds_refused D__law_places_right M_Mail_init M_Mail_letters_told M_Mail_heads_told M_Mail_len M_Mail_getitem M_Mail_eq mk_Mail kc_Mail  (fun_mk (st := s_law) l_law c_law k_law)⟩
theorem walk {l : PySem.W.OpenLaw} {q : Program} {loose : List Str} {XP : (Str → Option Value) → Heap → Prop} {YP : World → Heap → Prop} {d : DefRec} {K : Params → PySem.W.Frag} (hn : l.most = some 63) (hdf : d.params.defaults = [])
    (hY : ∀ (w : World) (h : Heap), YP w h → (K w.params).In h)
    (F : ∀ (w : World) (mg : Str → Option Value) (fa : Addr) (h : Heap), (K w.params).In h → h.Ns mainGlobals mg → mg d.name = some (.ref fa) →
      ∃ fd : FuncData, (∀ (s : Shared) (u : Value), BindsTo s fd ⟨[u], []⟩ [("_law_script", u)]) ∧ ∀ base : Heap, (K w.params).In base → base.Ns mainGlobals mg → FnOk l.prog w (K w.params) mg base CX0 14 fa fd ["_law_script"] (spLaw (K w.params))) :
    PySem.W.WalkO q loose XP YP l.row.toRowW d [] (fun f vs => PySem.call f vs) :=
  L2.walk_of (n := 63) (k := 14) (x := "_law_script") (CX := fun _ => CX0) (sp := fun w => spLaw (K w.params)) hn (by decide) hdf ⟨rfl, by decide, by decide⟩ hY F (fun _ _ a ns hl _ hS => ⟨a, ns, rfl, hS, hl, fun _ => rfl⟩) fun _ _ _ _ _ z => z
end K05

open PySem PySem.W PyProof.Rows in
set_option maxRecDepth 100000 in
set_option maxHeartbeats 0 in
theorem PySem.Challenge.cw_wholeline_k05_whole_lengths_holds : PySem.Challenge.rw_wholeline_k05_whole_lengths.Holds := by
  w_on; o_law; k_head; (case hw => w_witness2)
  k_fill
  refine K05.walk (l := PySem.Challenge.rw_wholeline_k05_whole_lengths) rfl rfl (fun w h Y => PySem.W.kIn_of Y) ?F
  case F =>
    intro w mg fa h KX G hmg
    refine' K05.all_mk KX G hmg ?q_g_BadPart ?q_g_BadRow ?q_g_BadLetter ?q_g_BadIndex ?q_g_BadHead ?q_g_TooMany ?q_g_WholeError ?q_g_Mail ?q_a_is_integer ?q_l_is_integer ?q_c_is_integer ?q_k_is_integer ?q_a_is_between ?q_l_is_between ?q_c_is_between ?q_k_is_between ?q_a_is_index ?q_l_is_index ?q_c_is_index ?q_k_is_index ?q_a_is_list ?q_l_is_list ?q_c_is_list ?q_k_is_list ?q_a_is_name ?q_l_is_name ?q_c_is_name ?q_k_is_name ?q_a_is_tuple_of ?q_l_is_tuple_of ?q_c_is_tuple_of ?q_k_is_tuple_of ?q_a_is_letter ?q_l_is_letter ?q_c_is_letter ?q_k_is_letter ?q_a_check_heads ?q_l_check_heads ?q_c_check_heads ?q_k_check_heads ?q_a_check_row ?q_l_check_row ?q_c_check_row ?q_k_check_row ?q_a_check_places ?q_l_check_places ?q_c_check_places ?q_k_check_places ?q_a_check_mail ?q_l_check_mail ?q_c_check_mail ?q_k_check_mail ?q_a_check_cost ?q_l_check_cost ?q_c_check_cost ?q_k_check_cost ?q_a_distances ?q_l_distances ?q_c_distances ?q_k_distances ?q_a_distance_at ?q_l_distance_at ?q_c_distance_at ?q_k_distance_at ?q_a_shorts ?q_l_shorts ?q_c_shorts ?q_k_shorts ?q_a_is_near ?q_l_is_near ?q_c_is_near ?q_k_is_near ?q_a_letter_lengths ?q_l_letter_lengths ?q_c_letter_lengths ?q_k_letter_lengths ?q_a_places_for ?q_l_places_for ?q_c_places_for ?q_k_places_for ?q_a__law_pool ?q_l__law_pool ?q_c__law_pool ?q_k__law_pool ?q_a__law_draw ?q_l__law_draw ?q_c__law_draw ?q_k__law_draw ?q_a__law_pick ?q_l__law_pick ?q_c__law_pick ?q_k__law_pick ?q_a__law_heads ?q_l__law_heads ?q_c__law_heads ?q_k__law_heads ?q_a__law_used ?q_l__law_used ?q_c__law_used ?q_k__law_used ?q_a__law_shorts ?q_l__law_shorts ?q_c__law_shorts ?q_k__law_shorts ?q_a__law_distances ?q_l__law_distances ?q_c__law_distances ?q_k__law_distances ?q_a__law_joined ?q_l__law_joined ?q_c__law_joined ?q_k__law_joined ?q_a__law_lengths ?q_l__law_lengths ?q_c__law_lengths ?q_k__law_lengths ?q_a__law_called ?q_l__law_called ?q_c__law_called ?q_k__law_called ?q_a__law_refused ?q_l__law_refused ?q_c__law_refused ?q_k__law_refused ?q_a__law_odds_refused ?q_l__law_odds_refused ?q_c__law_odds_refused ?q_k__law_odds_refused ?q_a__law_places_right ?q_l__law_places_right ?q_c__law_places_right ?q_k__law_places_right ?q_a_law ?q_l_law ?q_c_law ?q_k_law ?q_a_BadPart_init ?q_i_BadPart_init ?q_l_BadPart_init ?q_c_BadPart_init ?q_k_BadPart_init ?q_a_BadRow_init ?q_i_BadRow_init ?q_l_BadRow_init ?q_c_BadRow_init ?q_k_BadRow_init ?q_a_BadLetter_init ?q_i_BadLetter_init ?q_l_BadLetter_init ?q_c_BadLetter_init ?q_k_BadLetter_init ?q_a_BadIndex_init ?q_i_BadIndex_init ?q_l_BadIndex_init ?q_c_BadIndex_init ?q_k_BadIndex_init ?q_a_BadHead_init ?q_i_BadHead_init ?q_l_BadHead_init ?q_c_BadHead_init ?q_k_BadHead_init ?q_a_TooMany_init ?q_i_TooMany_init ?q_l_TooMany_init ?q_c_TooMany_init ?q_k_TooMany_init ?q_a_Mail_init ?q_i_Mail_init ?q_l_Mail_init ?q_c_Mail_init ?q_k_Mail_init ?q_a_Mail_letters_told ?q_i_Mail_letters_told ?q_l_Mail_letters_told ?q_c_Mail_letters_told ?q_k_Mail_letters_told ?q_a_Mail_heads_told ?q_i_Mail_heads_told ?q_l_Mail_heads_told ?q_c_Mail_heads_told ?q_k_Mail_heads_told ?q_a_Mail_len ?q_i_Mail_len ?q_l_Mail_len ?q_c_Mail_len ?q_k_Mail_len ?q_a_Mail_getitem ?q_i_Mail_getitem ?q_l_Mail_getitem ?q_c_Mail_getitem ?q_k_Mail_getitem ?q_a_Mail_eq ?q_i_Mail_eq ?q_l_Mail_eq ?q_c_Mail_eq ?q_k_Mail_eq ?q_n_isinstance ?q_n_int ?q_n_bool ?q_n_str ?q_n_list ?q_n_tuple ?q_n_len ?q_n_range ?q_n_enumerate ?q_n_all ?q_n_abs ?q_n_sum ?q_n_repr ?q_n_set ?q_n_dict ?q_n_zip ?q_n_max ?q_v_ALPHABET ?q_v_MOST_HEADS ?q_v_MOST_BODY ?q_v_MOST_LETTERS ?q_v_MOST_ROWS ?q_v_MOST_PLACES ?q_s_hn ?q_s_tk ?q_pg_Mail ?q_hd_Mail ?q_po_Mail ?q_sa_Mail ?q_ha_Mail ?q_hm_Mail ?q_ne_Mail ?q_is_Mail ?q_ty_Mail ?q_tup_Mail ?q_lst_Mail ?q_int_Mail ?q_str_Mail ?q_mk_Mail ?q_kc_Mail ?q_na_Mail_rows ?q_na_Mail_letters ?q_xBadPart_L ?q_xBadPart_sa ?q_xBadPart_ex ?q_xBadPart_ty ?q_xBadPart_kC ?q_xBadPart_noA ?q_xBadPart_hg ?q_xBadPart_hk ?q_xBadPart_hd ?q_xBadPart_ha ?q_xBadPart_hm ?q_xBadPart_is ?q_xBadPart_ss ?q_xBadPart_w ?q_xBadRow_L ?q_xBadRow_sa ?q_xBadRow_ex ?q_xBadRow_ty ?q_xBadRow_kC ?q_xBadRow_noA ?q_xBadRow_hg ?q_xBadRow_hk ?q_xBadRow_hd ?q_xBadRow_ha ?q_xBadRow_hm ?q_xBadRow_is ?q_xBadRow_ss ?q_xBadRow_w ?q_xBadLetter_L ?q_xBadLetter_sa ?q_xBadLetter_ex ?q_xBadLetter_ty ?q_xBadLetter_kC ?q_xBadLetter_noA ?q_xBadLetter_hg ?q_xBadLetter_hk ?q_xBadLetter_hd ?q_xBadLetter_ha ?q_xBadLetter_hm ?q_xBadLetter_is ?q_xBadLetter_ss ?q_xBadLetter_w ?q_xBadIndex_L ?q_xBadIndex_sa ?q_xBadIndex_ex ?q_xBadIndex_ty ?q_xBadIndex_kC ?q_xBadIndex_noA ?q_xBadIndex_hg ?q_xBadIndex_hk ?q_xBadIndex_hd ?q_xBadIndex_ha ?q_xBadIndex_hm ?q_xBadIndex_is ?q_xBadIndex_ss ?q_xBadIndex_w ?q_xBadHead_L ?q_xBadHead_sa ?q_xBadHead_ex ?q_xBadHead_ty ?q_xBadHead_kC ?q_xBadHead_noA ?q_xBadHead_hg ?q_xBadHead_hk ?q_xBadHead_hd ?q_xBadHead_ha ?q_xBadHead_hm ?q_xBadHead_is ?q_xBadHead_ss ?q_xBadHead_w ?q_xTooMany_L ?q_xTooMany_sa ?q_xTooMany_ex ?q_xTooMany_ty ?q_xTooMany_kC ?q_xTooMany_noA ?q_xTooMany_hg ?q_xTooMany_hk ?q_xTooMany_hd ?q_xTooMany_ha ?q_xTooMany_hm ?q_xTooMany_is ?q_xTooMany_ss ?q_r_c_get ?q_xo_BadPart_BadHead ?q_xw_i ?q_xw_t ?q_xw_b
    (case q_g_BadPart => k_is)
    (case q_g_BadRow => k_is)
    (case q_g_BadLetter => k_is)
    (case q_g_BadIndex => k_is)
    (case q_g_BadHead => k_is)
    (case q_g_TooMany => k_is)
    (case q_g_WholeError => k_is)
    (case q_g_Mail => k_is)
    (case q_a_is_integer => k_is)
    (case q_l_is_integer => k_is)
    (case q_c_is_integer => k_is)
    (case q_k_is_integer => k_is)
    (case q_a_is_between => k_is)
    (case q_l_is_between => k_is)
    (case q_c_is_between => k_is)
    (case q_k_is_between => k_is)
    (case q_a_is_index => k_is)
    (case q_l_is_index => k_is)
    (case q_c_is_index => k_is)
    (case q_k_is_index => k_is)
    (case q_a_is_list => k_is)
    (case q_l_is_list => k_is)
    (case q_c_is_list => k_is)
    (case q_k_is_list => k_is)
    (case q_a_is_name => k_is)
    (case q_l_is_name => k_is)
    (case q_c_is_name => k_is)
    (case q_k_is_name => k_is)
    (case q_a_is_tuple_of => k_is)
    (case q_l_is_tuple_of => k_is)
    (case q_c_is_tuple_of => k_is)
    (case q_k_is_tuple_of => k_is)
    (case q_a_is_letter => k_is)
    (case q_l_is_letter => k_is)
    (case q_c_is_letter => k_is)
    (case q_k_is_letter => k_is)
    (case q_a_check_heads => k_is)
    (case q_l_check_heads => k_is)
    (case q_c_check_heads => k_is)
    (case q_k_check_heads => k_is)
    (case q_a_check_row => k_is)
    (case q_l_check_row => k_is)
    (case q_c_check_row => k_is)
    (case q_k_check_row => k_is)
    (case q_a_check_places => k_is)
    (case q_l_check_places => k_is)
    (case q_c_check_places => k_is)
    (case q_k_check_places => k_is)
    (case q_a_check_mail => k_is)
    (case q_l_check_mail => k_is)
    (case q_c_check_mail => k_is)
    (case q_k_check_mail => k_is)
    (case q_a_check_cost => k_is)
    (case q_l_check_cost => k_is)
    (case q_c_check_cost => k_is)
    (case q_k_check_cost => k_is)
    (case q_a_distances => k_is)
    (case q_l_distances => k_is)
    (case q_c_distances => k_is)
    (case q_k_distances => k_is)
    (case q_a_distance_at => k_is)
    (case q_l_distance_at => k_is)
    (case q_c_distance_at => k_is)
    (case q_k_distance_at => k_is)
    (case q_a_shorts => k_is)
    (case q_l_shorts => k_is)
    (case q_c_shorts => k_is)
    (case q_k_shorts => k_is)
    (case q_a_is_near => k_is)
    (case q_l_is_near => k_is)
    (case q_c_is_near => k_is)
    (case q_k_is_near => k_is)
    (case q_a_letter_lengths => k_is)
    (case q_l_letter_lengths => k_is)
    (case q_c_letter_lengths => k_is)
    (case q_k_letter_lengths => k_is)
    (case q_a_places_for => k_is)
    (case q_l_places_for => k_is)
    (case q_c_places_for => k_is)
    (case q_k_places_for => k_is)
    (case q_a__law_pool => k_is)
    (case q_l__law_pool => k_is)
    (case q_c__law_pool => k_is)
    (case q_k__law_pool => k_is)
    (case q_a__law_draw => k_is)
    (case q_l__law_draw => k_is)
    (case q_c__law_draw => k_is)
    (case q_k__law_draw => k_is)
    (case q_a__law_pick => k_is)
    (case q_l__law_pick => k_is)
    (case q_c__law_pick => k_is)
    (case q_k__law_pick => k_is)
    (case q_a__law_heads => k_is)
    (case q_l__law_heads => k_is)
    (case q_c__law_heads => k_is)
    (case q_k__law_heads => k_is)
    (case q_a__law_used => k_is)
    (case q_l__law_used => k_is)
    (case q_c__law_used => k_is)
    (case q_k__law_used => k_is)
    (case q_a__law_shorts => k_is)
    (case q_l__law_shorts => k_is)
    (case q_c__law_shorts => k_is)
    (case q_k__law_shorts => k_is)
    (case q_a__law_distances => k_is)
    (case q_l__law_distances => k_is)
    (case q_c__law_distances => k_is)
    (case q_k__law_distances => k_is)
    (case q_a__law_joined => k_is)
    (case q_l__law_joined => k_is)
    (case q_c__law_joined => k_is)
    (case q_k__law_joined => k_is)
    (case q_a__law_lengths => k_is)
    (case q_l__law_lengths => k_is)
    (case q_c__law_lengths => k_is)
    (case q_k__law_lengths => k_is)
    (case q_a__law_called => k_is)
    (case q_l__law_called => k_is)
    (case q_c__law_called => k_is)
    (case q_k__law_called => k_is)
    (case q_a__law_refused => k_is)
    (case q_l__law_refused => k_is)
    (case q_c__law_refused => k_is)
    (case q_k__law_refused => k_is)
    (case q_a__law_odds_refused => k_is)
    (case q_l__law_odds_refused => k_is)
    (case q_c__law_odds_refused => k_is)
    (case q_k__law_odds_refused => k_is)
    (case q_a__law_places_right => k_is)
    (case q_l__law_places_right => k_is)
    (case q_c__law_places_right => k_is)
    (case q_k__law_places_right => k_is)
    (case q_a_law => k_is)
    (case q_l_law => k_is)
    (case q_c_law => k_is)
    (case q_k_law => k_is)
    (case q_a_BadPart_init => k_is)
    (case q_i_BadPart_init => k_is)
    (case q_l_BadPart_init => k_is)
    (case q_c_BadPart_init => k_is)
    (case q_k_BadPart_init => k_is)
    (case q_a_BadRow_init => k_is)
    (case q_i_BadRow_init => k_is)
    (case q_l_BadRow_init => k_is)
    (case q_c_BadRow_init => k_is)
    (case q_k_BadRow_init => k_is)
    (case q_a_BadLetter_init => k_is)
    (case q_i_BadLetter_init => k_is)
    (case q_l_BadLetter_init => k_is)
    (case q_c_BadLetter_init => k_is)
    (case q_k_BadLetter_init => k_is)
    (case q_a_BadIndex_init => k_is)
    (case q_i_BadIndex_init => k_is)
    (case q_l_BadIndex_init => k_is)
    (case q_c_BadIndex_init => k_is)
    (case q_k_BadIndex_init => k_is)
    (case q_a_BadHead_init => k_is)
    (case q_i_BadHead_init => k_is)
    (case q_l_BadHead_init => k_is)
    (case q_c_BadHead_init => k_is)
    (case q_k_BadHead_init => k_is)
    (case q_a_TooMany_init => k_is)
    (case q_i_TooMany_init => k_is)
    (case q_l_TooMany_init => k_is)
    (case q_c_TooMany_init => k_is)
    (case q_k_TooMany_init => k_is)
    (case q_a_Mail_init => k_is)
    (case q_i_Mail_init => k_is)
    (case q_l_Mail_init => k_is)
    (case q_c_Mail_init => k_is)
    (case q_k_Mail_init => k_is)
    (case q_a_Mail_letters_told => k_is)
    (case q_i_Mail_letters_told => k_is)
    (case q_l_Mail_letters_told => k_is)
    (case q_c_Mail_letters_told => k_is)
    (case q_k_Mail_letters_told => k_is)
    (case q_a_Mail_heads_told => k_is)
    (case q_i_Mail_heads_told => k_is)
    (case q_l_Mail_heads_told => k_is)
    (case q_c_Mail_heads_told => k_is)
    (case q_k_Mail_heads_told => k_is)
    (case q_a_Mail_len => k_is)
    (case q_i_Mail_len => k_is)
    (case q_l_Mail_len => k_is)
    (case q_c_Mail_len => k_is)
    (case q_k_Mail_len => k_is)
    (case q_a_Mail_getitem => k_is)
    (case q_i_Mail_getitem => k_is)
    (case q_l_Mail_getitem => k_is)
    (case q_c_Mail_getitem => k_is)
    (case q_k_Mail_getitem => k_is)
    (case q_a_Mail_eq => k_is)
    (case q_i_Mail_eq => k_is)
    (case q_l_Mail_eq => k_is)
    (case q_c_Mail_eq => k_is)
    (case q_k_Mail_eq => k_is)
    (case q_n_isinstance => k_is)
    (case q_n_int => k_is)
    (case q_n_bool => k_is)
    (case q_n_str => k_is)
    (case q_n_list => k_is)
    (case q_n_tuple => k_is)
    (case q_n_len => k_is)
    (case q_n_range => k_is)
    (case q_n_enumerate => k_is)
    (case q_n_all => k_is)
    (case q_n_abs => k_is)
    (case q_n_sum => k_is)
    (case q_n_repr => k_is)
    (case q_n_set => k_is)
    (case q_n_dict => k_is)
    (case q_n_zip => k_is)
    (case q_n_max => k_is)
    (case q_v_ALPHABET => k_is)
    (case q_v_MOST_HEADS => k_is)
    (case q_v_MOST_BODY => k_is)
    (case q_v_MOST_LETTERS => k_is)
    (case q_v_MOST_ROWS => k_is)
    (case q_v_MOST_PLACES => k_is)
    (case q_s_hn => k_is)
    (case q_s_tk => k_is)
    (case q_pg_Mail => k_is)
    (case q_hd_Mail => k_is)
    (case q_po_Mail => k_is)
    (case q_sa_Mail => k_is)
    (case q_ha_Mail => k_is)
    (case q_hm_Mail => k_is)
    (case q_ne_Mail => k_is)
    (case q_is_Mail => k_is)
    (case q_ty_Mail => k_is)
    (case q_tup_Mail => k_is)
    (case q_lst_Mail => k_is)
    (case q_int_Mail => k_is)
    (case q_str_Mail => k_is)
    (case q_mk_Mail => k_is)
    (case q_kc_Mail => k_is)
    (case q_na_Mail_rows => k_is)
    (case q_na_Mail_letters => k_is)
    (case q_xBadPart_L => k_is)
    (case q_xBadPart_sa => k_is)
    (case q_xBadPart_ex => k_is)
    (case q_xBadPart_ty => k_is)
    (case q_xBadPart_kC => k_is)
    (case q_xBadPart_noA => k_is)
    (case q_xBadPart_hg => k_is)
    (case q_xBadPart_hk => k_is)
    (case q_xBadPart_hd => k_is)
    (case q_xBadPart_ha => k_is)
    (case q_xBadPart_hm => k_is)
    (case q_xBadPart_is => k_is)
    (case q_xBadPart_ss => k_is)
    (case q_xBadPart_w => k_is)
    (case q_xBadRow_L => k_is)
    (case q_xBadRow_sa => k_is)
    (case q_xBadRow_ex => k_is)
    (case q_xBadRow_ty => k_is)
    (case q_xBadRow_kC => k_is)
    (case q_xBadRow_noA => k_is)
    (case q_xBadRow_hg => k_is)
    (case q_xBadRow_hk => k_is)
    (case q_xBadRow_hd => k_is)
    (case q_xBadRow_ha => k_is)
    (case q_xBadRow_hm => k_is)
    (case q_xBadRow_is => k_is)
    (case q_xBadRow_ss => k_is)
    (case q_xBadRow_w => k_is)
    (case q_xBadLetter_L => k_is)
    (case q_xBadLetter_sa => k_is)
    (case q_xBadLetter_ex => k_is)
    (case q_xBadLetter_ty => k_is)
    (case q_xBadLetter_kC => k_is)
    (case q_xBadLetter_noA => k_is)
    (case q_xBadLetter_hg => k_is)
    (case q_xBadLetter_hk => k_is)
    (case q_xBadLetter_hd => k_is)
    (case q_xBadLetter_ha => k_is)
    (case q_xBadLetter_hm => k_is)
    (case q_xBadLetter_is => k_is)
    (case q_xBadLetter_ss => k_is)
    (case q_xBadLetter_w => k_is)
    (case q_xBadIndex_L => k_is)
    (case q_xBadIndex_sa => k_is)
    (case q_xBadIndex_ex => k_is)
    (case q_xBadIndex_ty => k_is)
    (case q_xBadIndex_kC => k_is)
    (case q_xBadIndex_noA => k_is)
    (case q_xBadIndex_hg => k_is)
    (case q_xBadIndex_hk => k_is)
    (case q_xBadIndex_hd => k_is)
    (case q_xBadIndex_ha => k_is)
    (case q_xBadIndex_hm => k_is)
    (case q_xBadIndex_is => k_is)
    (case q_xBadIndex_ss => k_is)
    (case q_xBadIndex_w => k_is)
    (case q_xBadHead_L => k_is)
    (case q_xBadHead_sa => k_is)
    (case q_xBadHead_ex => k_is)
    (case q_xBadHead_ty => k_is)
    (case q_xBadHead_kC => k_is)
    (case q_xBadHead_noA => k_is)
    (case q_xBadHead_hg => k_is)
    (case q_xBadHead_hk => k_is)
    (case q_xBadHead_hd => k_is)
    (case q_xBadHead_ha => k_is)
    (case q_xBadHead_hm => k_is)
    (case q_xBadHead_is => k_is)
    (case q_xBadHead_ss => k_is)
    (case q_xBadHead_w => k_is)
    (case q_xTooMany_L => k_is)
    (case q_xTooMany_sa => k_is)
    (case q_xTooMany_ex => k_is)
    (case q_xTooMany_ty => k_is)
    (case q_xTooMany_kC => k_is)
    (case q_xTooMany_noA => k_is)
    (case q_xTooMany_hg => k_is)
    (case q_xTooMany_hk => k_is)
    (case q_xTooMany_hd => k_is)
    (case q_xTooMany_ha => k_is)
    (case q_xTooMany_hm => k_is)
    (case q_xTooMany_is => k_is)
    (case q_xTooMany_ss => k_is)
    (case q_r_c_get => k_is)
    (case q_xo_BadPart_BadHead => k_is)
    (case q_xw_i => k_is)
    (case q_xw_t => k_is)
    (case q_xw_b => k_is)
