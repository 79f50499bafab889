import PyProof.Rows.All
import Wide.All
import OpenK.AllK
import Wide.FinOn
import PyProof.EqAt
import PyProof.EqKinds
import PyProof.TupleCall
import HandS.Base
import HandS.Call
import HandS.List
import HandS.Comp
import HandS.Ends
import HandS.Words
import HandS.WordsList
import HandS.Exc
import HandS.ExcInit
import HandS.ExcIs
import HandS.OwnEq
import HandS.IsInst
import HandS.ExcOwn
import HandS.ExcField
import HandS.WordsExc
import HandS.TryOnly
import HandS.TryMany
import HandS.CallSlots
import HandS.Wide
import HandS.Codes
import KE.KTupSum
import PyProof.ListRange
import KE.GoesEnum
import HandS.Iter
import HandS.Walk
import HandS.HotCalls
import KE.KEqNest
import HandS.MakeKwOnly
import HandS.TupAny
import HandS.Strs
import HandS.Deep
import HandS.Zip
import HandS.Star
import HandS.Conv
import HandS.IterVal
import HandS.ListItems
import KE.KDictZip
import KE.DataFind
import HandS.GenCall
import HandS.GenList
import KE.DataMinMax
import HandS.SortKw
import KE.KExcInit
import HandS.SetFor
import HandS.Style
import HandS.Defaults
import HandS.Evl
import PySem.Challenge.RW_wholeline_k19_race_papers_of_anyone
import HandS.Steps
import HandS.SortInts
import HandS.Flow
import PyProof.P3Eq
set_option Elab.async false
set_option maxRecDepth 100000
set_option maxHeartbeats 4000000
namespace PySem.W
open PySem PySem.Calls PyProof.Rows
section
variable {prog : Program} {w : World} {A : Around} {E : Value → Shared → Prop} {s : Shared} {K : Frag} {x C L f : Addr} {h₀ : Heap} {m : Str → Option Value} {ox : Obj} {od : Option Obj} {b tb : Value}
theorem objNe_K {Q : Fin → Shared → Prop} (hu : A.units < cLine) (X : K.In s.heap) (I : InstAt s.heap x ox C od)
    (hs : findIn K (.ref C) "__eq__" = some (some (.ref f))) (hf : isFn K (.ref f) = true)
    (h : wpAny (model prog w) A (call (.ref f) [.ref x, b]) (fun v s' => ∃ r, v = .bool r ∧ Q (.done (.ret (.bool (!r)))) s') E s) :
    wpAny (model prog w) A (Builtin.«object.__ne__» ⟨[.ref x, b], []⟩) Q E s := by
  obtain ⟨hp, g, d, tk, os⟩ := s
  unfold Builtin.«object.__ne__»
  repeat (first
    | with_reducible refine wpAny_cRoomFor hu ?_
    | (refine wpAny_bind (m := callSpecialIfBound? (.ref x) (Str.ofString "__eq__") [b])
        (ifBound_K X I hs hf (wpAny_mono h (fun r s' hr => by
          obtain ⟨b, rfl, hq⟩ := hr
          repeat (first | exact hq | exact wpAny_pure hq | exact wpAny_truthy_bool hq | (refine wpAny_bind (m := truthy (.bool _)) (wpAny_truthy_bool ?_)) | wp_step)) fun _ _ e => e)))
    | wp_step)
theorem cmpNe_K {Q : Value → Shared → Prop} (hu : A.units + 1 < cLine) (F : Fr h₀ L s.heap m) (X₀ : K.In h₀) (I : InstAt s.heap x ox C od) (hb : Looks (model prog w) s.heap (typeOf b) tb) (hn : notFirst K C tb = true)
    (hne : findIn K (.ref C) "__ne__" = some (some (.builtin "object.__ne__"))) (hm : mroIn K C (.type "object") = some true)
    (hs : findIn K (.ref C) "__eq__" = some (some (.ref f))) (hf : isFn K (.ref f) = true)
    (h : wpAny (model prog w) A.in1 (call (.ref f) [.ref x, b]) (fun v s' => ∃ r, v = .bool r ∧ Q (.bool (!r)) s') E s) : wpAny (model prog w) A (richCompare .NotEq (.ref x) b) Q E s := by
  have X := X₀.keeps F.keep
  have sub : Looks (model prog w) s.heap (isInstance (.ref x) (.type "object")) true := I.type.andThen (looks_mroIn X hm)
  have one : wpAny (model prog w) A (tryCompare (.ref x) "__ne__" b) (fun r s' => ∃ v, r = some v ∧ Q v s') E s := by
    unfold tryCompare
    refine wpAny_bind ?_
    simp only [callSpecialIfBound?, bindSpecialIfBound?]
    refine wpAny_holding (wpAny_bind (wpAny_bind (wpAny_bind (I.type.here ((looks_findIn X hne).here ?_)))))
    simp only [PySem.F.cmp_object.ne.bind]
    refine wpAny_bind (wpAny_askSetting (wpAny_ite ?_))
    have fin : wpAny (model prog w) A (call (.builtin "object.__ne__") ([.ref x] ++ [b]) >>= fun v => pure (some v)) (fun r s' => wpAny (model prog w) A (match r with
        | some .notImplemented | none => pure none
        | some v => pure (some v)) (fun r s' => ∃ v, r = some v ∧ Q v s') E s') E s := by
      refine wpAny_bind (wpAny_call (codeAny_call_builtin PySem.F.cmp_object.ne.plain PySem.F.cmpEntry_ne (check_slot PySem.F.cmpKind_ne PySem.F.cmpSplit_ne sub (PySem.F.cmpArgs_ne _ _)
        (objNe_K (A := A.in1) hu X I hs hf (wpAny_mono h (fun v s' hv => ?_) fun _ _ e => e)))))
      obtain ⟨r, rfl, hq⟩ := hv
      first | exact ⟨r, rfl, wpAny_pure (wpAny_pure ⟨_, rfl, hq⟩)⟩ | exact ⟨r, rfl, wpAny_pure ⟨_, rfl, hq⟩⟩
    split
    · repeat (first | exact fin | with_reducible refine wpAny_pure ?_ | with_reducible refine wpAny_bind ?_ | with_reducible refine wpAny_tryCatch ?_)
    · refine wpAny_tryCatch ?_
      repeat (first | exact fin | with_reducible refine wpAny_pure ?_ | with_reducible refine wpAny_bind ?_)
  unfold richCompare
  simp only [oneThing_ref]
  refine wpAny_holding (wpAny_bind (wpAny_cRoomFor (Nat.lt_of_succ_lt hu) ?_))
  refine wpAny_bind (I.type.here (wpAny_bind (hb.here ?_)))
  split
  · rename_i q
    have e : subIn K tb (.ref C) = some false := by
      rcases Bool.or_eq_true_iff.mp hn with e | e
      · rw [beq_iff_eq.mp e] at q; simp at q
      · exact beq_iff_eq.mp e
    refine wpAny_bind ((looks_subIn X e).here ?_)
    simp only [Bool.false_eq_true, if_false]
    refine wpAny_bind (wpAny_mono one (fun r s' z => ?_) fun _ _ e => e)
    obtain ⟨v, rfl, hq⟩ := z
    exact wpAny_pure hq
  · refine wpAny_bind (wpAny_pure ?_)
    simp only [Bool.false_eq_true, if_false]
    refine wpAny_bind (wpAny_mono one (fun r s' z => ?_) fun _ _ e => e)
    obtain ⟨v, rfl, hq⟩ := z
    exact wpAny_pure hq
end
end PySem.W

set_option Elab.async false
set_option maxRecDepth 100000
set_option maxHeartbeats 4000000
namespace L2
open PySem PySem.Spec PyProof.Rows
section
variable {X : Cx} {CX : CXT} {k : Nat} {f C : Addr} {fd : FuncData} {ps : List Str} {sp : Sp}
/-- the own method f, called at some frame below with room -/
theorem run_at {A : Around} {pins : List (Addr × Obj)} {σ : St} {H : Hp} {s : Shared} {Q : VK} {us : List Value} {vs : List V} (F : FnOk X.prog X.w X.K X.mg X.base CX k f fd ps sp) (hr : Room k A) (hA : A.frames = X.A.frames) (hb : Binds X.K fd ps []) (hx : Passes CX X E0)
    (I : Inv X pins σ H s) (r : Vals vs us) (h : sp vs H Q E0) : wpAny (model X.prog X.w) A (call (.ref f) us) (EP X pins σ Q) X.xe s := by
  have hl : us.length = ps.length := by rw [← r.length]; exact F.len _ _ _ _ h
  have e0 : Env0 X.prog X.w X.K X.mg X.base A X.stack s H := by
    have e := I.env0
    exact ⟨by rw [hA]; exact e.frames, e.mod, e.bs, e.bsz, e.funs, e.frf, e.hok, e.bare⟩
  refine wpAny_call (codeAny_mono (F.run A X.stack s H ⟨us, []⟩ us vs Q E0 hr e0 (by
    have := hb s us I.kIn (by simpa using hl)
    simpa using this) r h) fun r s' hq => ?_)
  cases r with
  | error e => exact hx pins σ H s e s' I hq
  | ok fl =>
    cases fl with
    | ret u => exact I.after hq
    | next => exact False.elim hq
    | brk => exact False.elim hq
    | cont => exact False.elim hq
/-- x == y, x an instance of the class at C, by its own ==; y anything whose type is known -/
def rEqO (K : PySem.W.Frag) (C : Addr) (sp : Sp) : R2 := fun x y H Q => ∃ a dx fs t, x = .ref a ∧ H a = some (.ins C dx fs) ∧ TyX K H y t ∧ PySem.W.notFirst K C t = true ∧ sp [x, y] H (fun v H' => ∃ b, v = .bl b ∧ Q (.bl b) H') E0
def rNeO (K : PySem.W.Frag) (C : Addr) (sp : Sp) : R2 := fun x y H Q => ∃ a dx fs t, x = .ref a ∧ H a = some (.ins C dx fs) ∧ TyX K H y t ∧ PySem.W.notFirst K C t = true ∧ sp [x, y] H (fun v H' => ∃ b, v = .bl b ∧ Q (.bl (!b)) H') E0
structure EqM (K : PySem.W.Frag) (C f : Addr) : Prop where
  eq : PySem.W.findIn K (.ref C) "__eq__" = some (some (.ref f))
  fn : PySem.W.isFn K (.ref f) = true
  ne : PySem.W.findIn K (.ref C) "__ne__" = some (some (.builtin "object.__ne__"))
  ob : PySem.W.mroIn K C (.type "object") = some true
theorem op_eqO (F : FnOk X.prog X.w X.K X.mg X.base CX k f fd ps sp) (M : EqM X.K C f) (hr : Room k X.A) (hb : Binds X.K fd ps []) (hx : Passes CX X E0) : OpR X (compareOp .Eq) (rEqO X.K C sp) := by
  intro pins s σ H x y v u Q I rx ry hq
  obtain ⟨a, dx, fs, t, rfl, ha, ty, hn, q⟩ := hq
  cases (show v = Value.ref a from rx)
  obtain ⟨P, Z, p, _⟩ := kit_of I ry ty
  obtain ⟨mA, J, _⟩ := ins_get I.hok ha
  obtain ⟨od, J, _⟩ := J.look
  obtain ⟨m, hF⟩ := I.fr
  show wpAny (model X.prog X.w) X.A (richCompare .Eq (.ref a) u) (EP X pins σ Q) X.xe s
  refine PySem.W.cmp_K (op := .Eq) (tb := t) hr.units0 hF I.ok.mod.kin J (Z.ty _ _ I.kIn p) hn M.eq M.fn ?_
  refine wpAny_mono (run_at (vs := [.ref a, y]) F hr rfl hb hx I (.cons rfl (.cons ry .nil)) q) (fun v' s' z => ?_) fun _ _ e => e
  obtain ⟨w', H', I', rv, b, rfl, q'⟩ := z
  cases rv
  exact ⟨.bl b, H', I', rfl, q'⟩
theorem op_neO (F : FnOk X.prog X.w X.K X.mg X.base CX k f fd ps sp) (M : EqM X.K C f) (hr : Room (k + 1) X.A) (hb : Binds X.K fd ps []) (hx : Passes CX X E0) : OpR X (compareOp .NotEq) (rNeO X.K C sp) := by
  intro pins s σ H x y v u Q I rx ry hq
  obtain ⟨a, dx, fs, t, rfl, ha, ty, hn, q⟩ := hq
  cases (show v = Value.ref a from rx)
  obtain ⟨P, Z, p, _⟩ := kit_of I ry ty
  obtain ⟨mA, J, _⟩ := ins_get I.hok ha
  obtain ⟨od, J, _⟩ := J.look
  obtain ⟨m, hF⟩ := I.fr
  show wpAny (model X.prog X.w) X.A (richCompare .NotEq (.ref a) u) (EP X pins σ Q) X.xe s
  refine PySem.W.cmpNe_K (tb := t) (by have := hr.units; omega) hF I.ok.mod.kin J (Z.ty _ _ I.kIn p) hn M.ne M.ob M.eq M.fn ?_
  refine wpAny_mono (run_at (vs := [.ref a, y]) F hr.in1 rfl hb hx I (.cons rfl (.cons ry .nil)) q) (fun v' s' z => ?_) fun _ _ e => e
  obtain ⟨w', H', I', rv, b, rfl, q'⟩ := z
  cases rv
  exact ⟨b, rfl, .bl (!b), H', I', rfl, q'⟩
/-- len(o), o an instance of the class at C with an own __len__ -/
def rLenO (C : Addr) (sp : Sp) : List V → Hp → VK → Prop := fun xs H Q => ∃ a dx fs, xs = [.ref a] ∧ H a = some (.ins C dx fs) ∧ sp [.ref a] H (fun v H' => ∃ n : Int, v = .int n ∧ (0 ≤ n ∧ n < 2 ^ 63) ∧ Q (.int n) H') E0
theorem call_lenO (F : FnOk X.prog X.w X.K X.mg X.base CX k f fd ps sp) (hs : PySem.W.findIn X.K (.ref C) "__len__" = some (some (.ref f))) (hf : PySem.W.isFn X.K (.ref f) = true) (hr : Room (k + 1) X.A) (hb : Binds X.K fd ps []) (hx : Passes CX X E0) :
    CallR X (.builtin "len") (rLenO C sp) := by
  intro pins s σ H xs us Q I r h
  obtain ⟨a, dx, fs, rfl, ha, q⟩ := h
  cases r with
  | cons rx rr =>
    rename_i u us'
    cases rr
    cases (show u = Value.ref a from rx)
    obtain ⟨mA, J, _⟩ := ins_get I.hok ha
    obtain ⟨od, J, _⟩ := J.look
    obtain ⟨m, hF⟩ := I.fr
    refine PySem.W.len_K hF I.ok.mod.kin J hs hf ?_
    refine wpAny_mono (run_at (vs := [.ref a]) F hr.in1 rfl hb hx I (.cons rfl .nil) q) (fun v' s' z => ?_) fun _ _ e => e
    obtain ⟨w', H', I', rv, n, rfl, hn, q'⟩ := z
    obtain ⟨t, rfl⟩ := (show ∃ t, v' = Value.int n t from rv)
    exact ⟨hn, .int n, H', I'.tok _, ⟨_, rfl⟩, q'⟩
end
end L2

set_option Elab.async false
set_option maxRecDepth 100000
set_option maxHeartbeats 4000000
namespace PySem.W
open PySem PySem.Spec PySem.Calls PyProof.Rows
section
variable {K : Frag} {C : Addr}
theorem findObj_dat {od : Option Obj} {name : Str} {a g : Value} (hc : (clsIn K C).isSome = true) (ha : findIn K (.ref C) name = some (some a)) (hg : specialIn K a "__get__" = some (some g)) (ht : takesIn K a = some true) :
    findObj K C od name = some (.bind g a) := by
  obtain ⟨cd, hc⟩ := Option.isSome_iff_exists.mp hc
  simp [findObj, hc, ha, hg, ht]
variable {prog : Program} {w : World} {A : Around} {E : Value → Shared → Prop} {s : Shared} {x D : Addr} {ox : Obj}
theorem kin_classD {od : Option Obj} {Q : Option Value → Shared → Prop} (T : L2.ExcC K D)
    (X : K.In s.heap) (I : InstAt s.heap x ox D od) (h : Q (some (.ref D)) { s with toks := s.toks + 1 }) : wpAny (model prog w) A (getAttr? (.ref x) "__class__") Q E s := by
  have hf : findObj K D od "__class__" = some (.bind (.builtin "getset_descriptor.__get__") (.builtin "object.__class__")) :=
    findObj_dat (by obtain ⟨cd, hc, _⟩ := any_some T.hd; rw [hc]; rfl) T.ha T.hn T.ht
  obtain ⟨hp, g, d, t, os⟩ := s
  have L0 := I.type (M := model prog w)
  have L1 := looks_findIn (M := model prog w) X T.hg
  have L2 := looks_findIn (M := model prog w) X T.hk
  have L3 := looks_find (M := model prog w) X I hf
  have sub : Looks (model prog w) hp (isInstance (.ref x) (.type "BaseException")) true := L0.andThen (looks_subIn X T.hs)
  have hx0 : (false && onTheHeap (Value.builtin "BaseException.__getattribute__")) = false := rfl
  have hx2 : (Value.builtin "BaseException.__getattribute__" == Value.builtin "object.__getattribute__") = false := by decide +kernel
  have hx1 : (onTheHeap (Value.ref D) && Value.builtin "BaseException.__getattribute__" == Value.builtin "object.__getattribute__") = false := by rw [hx2]; rfl
  unfold getAttr? getAttrBy? getAttrBy
  refine wpAny_bind (wpAny_mkText (wpAny_bind (wpAny_attempt (wpAny_holding (wpAny_bind (L0.at (wpAny_bind (L1.at ?_))))))))
  show wpAny _ _ (if (onTheHeap (Value.ref D) && Value.builtin "BaseException.__getattribute__" == Value.builtin "object.__getattribute__") = true then _ else _) _ _ _
  rw [hx1, if_neg Bool.false_ne_true]
  unfold getAttrByItsOwn hookBefore
  refine wpAny_bind ?_
  rw [if_pos (show onTheHeap (Value.ref D) = true from rfl)]
  refine L2.at ?_
  refine wpAny_bind (wpAny_attempt (wpAny_holding ?_))
  unfold callGetattribute
  rw [hx0, if_neg Bool.false_ne_true]
  unfold boundAndCalled
  rw [PySem.F.excAttr_ValueError.ga.bind (.ref x)]
  refine wpAny_bind (wpAny_pure ?_)
  show wpAny _ _ (call (.builtin "BaseException.__getattribute__") [.ref x, .str "__class__" t]) _ _ _
  refine wpAny_call (codeAny_call_builtin PySem.F.excAttr_ValueError.ga.plain PySem.F.entry_bexc_ga ?_)
  refine @check_slot (model prog w) _ _ ⟨hp, g, d, t + 1, os⟩ "BaseException.__getattribute__" "BaseException" "__getattribute__" (.ref x) [.str "__class__" t] [] _ (by decide +kernel) (by decide +kernel) sub (PySem.F.args_bexc_ga (.ref x) (.str "__class__" t)) ?_
  unfold Builtin.«object.__getattribute__»
  refine wpAny_bind (wpAny_of_eq (a := ((Value.ref x : Value), [Value.str "__class__" t])) (by first | rfl | (simp only [slotArgs]; rfl)) ?_)
  refine wpAny_bind (wpAny_pure (wpAny_bind (L0.at (wpAny_bind (L3.at ?_)))))
  show wpAny _ _ (holding [Value.builtin "object.__class__"] (call (.builtin "getset_descriptor.__get__") [.builtin "object.__class__", .ref x, .ref D]) >>= ret) _ _ _
  refine wpAny_bind (wpAny_holding (wpAny_call (class_get (s := ⟨hp, g, d, t + 1, os⟩) (ox := ox) (od := od) X I T.hm ?_)))
  refine wpAny_pure ?_
  show wpAny _ _ (handedOut (.ref D)) _ _ _
  rw [handedOut_of (v := .ref D) rfl]
  first
    | exact wpAny_pure (wpAny_pure h)
    | exact wpAny_pure h
    | exact wpAny_pure (wpAny_bind (wpAny_pure (wpAny_pure h)))
theorem kitx_excD (T : L2.ExcC K D) : KitX K (.ref x) (.ref D) (fun h => ∃ od, InstAt h x ox D od) where
  ty := fun _ _ _ I => by
    obtain ⟨_, I⟩ := I
    exact I.type
  it := fun M h X _ => by
    obtain ⟨cdD, hcD, _⟩ := any_some T.hd
    unfold clsIn at hcD
    split at hcD
    · rename_i c' d' cd' sl' ho
      intro A' Q' E' s' k q
      unfold isType loadHead
      exact wpAny_bind (wpAny_loadPart (k _ _ (X _ _ ho)) (wpAny_pure q))
    · cases hcD
  ne := fun h tp dd its n sl X htp => by
    obtain ⟨cdD, hcD, _⟩ := any_some T.hd
    refine Bool.eq_false_iff.mpr fun q => ?_
    have e : D = tp := Value.ref.inj (beq_iff_eq.mp q)
    subst e
    unfold clsIn at hcD
    split at hcD
    · rename_i c' d' cd' sl' ho
      have z := (X _ _ ho).symm.trans htp
      cases z
    · cases hcD
  ca := fun X I k => by
    obtain ⟨_, I⟩ := I
    exact kin_classD T X I k
end
end PySem.W
namespace L2
open PySem PySem.Spec PyProof.Rows
section
variable {X : Cx}
/-- isinstance(e, c), e the exception that the suite holds, with a dict or without -/
theorem call_isED {a D : Addr} {d : Option Addr} {oe : Obj} {pn : List (Addr × Obj)} (C : ExcC X.K D) (hz : Zc (.ref D) d oe) (hf : ∃ vs, oe.data = .fields vs) (hd : ∀ (pins : List (Addr × Obj)) (σ : St) (H : Hp) (s : Shared), Inv (X.suite a ((a, oe) :: pn)) pins σ H s → ∀ dd, d = some dd → ∃ od, s.heap.get? dd = some od) :
    CallR (X.suite a ((a, oe) :: pn)) (.builtin "isinstance") (rIsE X.K D a) := by
  intro pins s σ H xs us Q I r h
  obtain ⟨c, cv, b, rfl, hcv, e, q⟩ := h
  cases r with
  | cons rx rr =>
    cases rr with
    | cons rt rr =>
      cases rr
      cases rx
      have ec := hcv _ rt
      subst ec
      obtain ⟨hget, _⟩ := I.pin (a, oe) (List.mem_append.mpr (.inl List.mem_cons_self))
      obtain ⟨vs, hv⟩ := hf
      have J : ∃ od, PySem.W.InstAt s.heap a oe D od := by
        have hd' := hd pins σ H s I
        obtain ⟨oc, od, oda, osl⟩ := oe
        obtain ⟨h1, h2⟩ := hz
        dsimp only at h1 h2 hv
        subst h1 h2 hv
        cases od with
        | none => exact ⟨none, hget, rfl, rfl, trivial⟩
        | some dd =>
          obtain ⟨o, ho⟩ := hd' dd rfl
          exact ⟨some o, hget, rfl, rfl, ho⟩
      exact PySem.W.kia_one (PySem.W.kitx_excD C) I.kIn J e (fun z => nomatch z) fun tk => ⟨.bl b, H, I.kept (t' := tk) fun _ _ z => z, rfl, q⟩
/-- the same where the dict is tracked: the reading asks it -/
def rIsED (K : PySem.W.Frag) (D a : Addr) (cls : Value) (d : Option Addr) : List V → Hp → VK → Prop := fun xs H Q => cls = .ref D ∧ (∀ dd, d = some dd → ∃ fs, H dd = some (.xd fs)) ∧ ∃ (c : V) (cv : Value) (b : Bool), xs = [.ref a, c] ∧ (∀ u, RelV c u → u = cv) ∧ PySem.W.kitOne K (.ref D) cv = some b ∧ Q (.bl b) H
theorem call_isEX {a D : Addr} {cls : Value} {d : Option Addr} {oe : Obj} {pn : List (Addr × Obj)} (C : ExcC X.K D) (hz : Zc cls d oe) (hf : ∃ vs, oe.data = .fields vs) : CallR (X.suite a ((a, oe) :: pn)) (.builtin "isinstance") (rIsED X.K D a cls d) := by
  intro pins s σ H xs us Q I r h
  obtain ⟨ec0, hdd, c, cv, b, rfl, hcv, e, q⟩ := h
  subst ec0
  cases r with
  | cons rx rr =>
    cases rr with
    | cons rt rr =>
      cases rr
      cases rx
      have ec := hcv _ rt
      subst ec
      obtain ⟨hget, _⟩ := I.pin (a, oe) (List.mem_append.mpr (.inl List.mem_cons_self))
      obtain ⟨vs, hv⟩ := hf
      have J : ∃ od, PySem.W.InstAt s.heap a oe D od := by
        obtain ⟨oc, od, oda, osl⟩ := oe
        obtain ⟨h1, h2⟩ := hz
        dsimp only at h1 h2 hv
        subst h1 h2 hv
        cases od with
        | none => exact ⟨none, hget, rfl, rfl, trivial⟩
        | some dd =>
          obtain ⟨fs, hfs⟩ := hdd dd rfl
          obtain ⟨mA, hns, _⟩ := (show ObjOk X.prog X.w H s.heap dd (.xd fs) from I.hok dd _ hfs)
          obtain ⟨od, ho, _⟩ := lookIn_ns hns
          exact ⟨some od, hget, rfl, rfl, ho⟩
      exact PySem.W.kia_one (PySem.W.kitx_excD C) I.kIn J e (fun z => nomatch z) fun tk => ⟨.bl b, H, I.kept (t' := tk) fun _ _ z => z, rfl, q⟩
end
section
variable {X : Cx} {CX : CXT} {k : Nat} {f C : Addr} {fd : FuncData} {ps : List Str} {sp : Sp} {dvs : List V} {ds : List Value} {E : St → XK} {x m : Str} {p pos apos : Pos} {e o : Expr} {es : List Expr} {ta : TE} {t : TA}
/-- C(e, ..) where what is raised is wished for at the slots as they stand -/
def tMakeS (C : Addr) (sp : Sp) (dvs : List V) (E : St → XK) (t : TA) : TE := fun σ H Q => t σ H fun vs H1 => ∀ x dx, H1 x = none → H1 dx = none → dx ≠ x →
  sp (.ref x :: (vs ++ dvs)) (upd (upd H1 dx (.own x)) x (.ins C dx [])) (fun v H2 => v = .non ∧ Q (.ref x) H2) (fun cls d H2 => E σ cls d H2)
theorem run_makeS {pins : List (Addr × Obj)} {σ : St} {H : Hp} {s : Shared} {Q : VK} {us : List Value} {vs : List V} (M : Mk X.K C f) (F : FnOk X.prog X.w X.K X.mg X.base CX k f fd ps sp) (hr : Room (k + 1) X.A) (hb : Binds X.K fd ps ds) (hd : Vals dvs ds)
    (hx : PassesAt CX X σ (E σ)) (I : Inv X pins σ H s) (r : Vals vs us)
    (h : ∀ x dx, H x = none → H dx = none → dx ≠ x → sp (.ref x :: (vs ++ dvs)) (upd (upd H dx (.own x)) x (.ins C dx [])) (fun v H2 => v = .non ∧ Q (.ref x) H2) (E σ)) :
    wpAny (model X.prog X.w) X.A (call (.ref C) us) (EP X pins σ Q) X.xe s := by
  have hq := h (s.heap.objs.size + 1) s.heap.objs.size (I.hok.fresh (Nat.le_succ _)) (I.hok.fresh (Nat.le_refl _)) (Nat.ne_of_lt (Nat.lt_succ_self _))
  have I2 := Inv.made (C := C) I
  have r2 : Vals (V.ref (s.heap.objs.size + 1) :: (vs ++ dvs)) (Value.ref (s.heap.objs.size + 1) :: (us ++ ds)) := .cons rfl (r.append hd)
  have hl : (Value.ref (s.heap.objs.size + 1) :: us ++ ds).length = ps.length := by
    have e := r2.length
    rw [F.len _ _ _ _ hq] at e
    exact e.symm
  refine wpAny_call (make_map (f := f) I.kIn M.makes M.init (beq_iff_eq.mp M.fn) (codeAny_mono (F.run _ X.stack _ _ ⟨Value.ref (s.heap.objs.size + 1) :: us, []⟩ (Value.ref (s.heap.objs.size + 1) :: (us ++ ds)) _ _ (E σ) (hr.make C us [])
    (I2.env0.make C us []) (hb _ (Value.ref (s.heap.objs.size + 1) :: us) I2.kIn hl) r2 hq) fun r s' hq' => ?_))
  cases r with
  | error e => exact hx pins _ _ e s' I2 hq'
  | ok fl =>
    cases fl with
    | ret u =>
      obtain ⟨v, H', I3, rv, ev, q3⟩ := I2.after hq'
      subst ev
      exact ⟨rv, ⟨V.ref (s.heap.objs.size + 1), H', I3, rfl, q3⟩⟩
    | next => exact False.elim hq'
    | brk => exact False.elim hq'
    | cont => exact False.elim hq'
theorem pe_makeS (M : Mk X.K C f) (F : FnOk X.prog X.w X.K X.mg X.base CX k f fd ps sp) (hr : Room (k + 1) X.A) (hg : Gl X x) (hm : X.mg x = some (.ref C)) (hb : Binds X.K fd ps ds) (hd : Vals dvs ds) (hx : ∀ σ, PassesAt CX X σ (E σ))
    (ha : PA X (e :: es) t) (hdb : (x == ("__debug__" : Str)) = false := by decide) (he : starEach (e :: es) X.env = (false, eval e X.env) :: starEach es X.env := by rfl) (hpl : (backTo pos (starEach es X.env)).any (·.1) = false := by rfl) :
    PE X (.Call (.Name x p) (e :: es) [] pos) (tMakeS C sp dvs E t) := by
  refine ⟨fun pins s σ H Q I h => ?_⟩
  refine wpAny_Call_Name_kw (ld_glob I hg hm ?_ hdb)
  refine PySem.W.callWith_K (h₀ := X.base) I.ok.mod.kin M.kp (thn (ha.run pos pins s σ H _ I h) fun us s1 ⟨vs, H1, I1, r, q⟩ => ⟨I1.kIn, ?_⟩) he hpl
  exact run_makeS M F hr hb hd (hx σ) I1 r q
/-- o.m(e, ..) | o.m() likewise -/
def tMethSD (C : Addr) (m : Str) (sp : Sp) (dvs : List V) (E : St → XK) (ta : TE) (t : TA) : TE := fun σ H Q => ta σ H fun x H1 => ∃ a dx fs, x = .ref a ∧ H1 a = some (.ins C dx fs) ∧ fs.lookup m = none ∧
  t σ H1 fun vs H2 => sp (x :: (vs ++ dvs)) H2 Q (E σ)
theorem pe_methSD {pl : Sem Bool} (he : PE X o ta) (c : Cls X.K C) (hm : Meth X.K C m f) (F : FnOk X.prog X.w X.K X.mg X.base CX k f fd ps sp) (hr : Room k X.A) (hb : Binds X.K fd ps ds) (hd : Vals dvs ds) (hx : ∀ σ, PassesAt CX X σ (E σ)) (ha : PA X (e :: es) t)
    (hst : starEach (e :: es) X.env = (false, eval e X.env) :: starEach es X.env := by rfl) (hpl : (backTo pos (starEach es X.env)).any (·.1) = false := by rfl)
    (ht : eval (.Call (.Attribute o m apos) (e :: es) [] pos) X.env = (do
      let ov ← eval o X.env
      standAt apos.atName
      let (f, first) ← holding [ov] (getMethod ov m pl)
      callWith pos f first (backTo pos (starEach (e :: es) X.env)) (backToKw pos (keywordEach [] X.env))) := by rfl) :
    PE X (.Call (.Attribute o m apos) (e :: es) [] pos) (tMethSD C m sp dvs E ta t) := by
  refine ⟨fun pins s σ H Q I h => ?_⟩
  refine PySem.W.methodCall_KW (pl := pl) (thn (he.run pins s σ H _ I h) fun u s1 ⟨x, H1, I1, rx, a, dx, fs, ex, ea, l, q⟩ => ?_) ht
  subst ex
  obtain rfl : u = Value.ref a := rx
  refine getmeth_ok I1 ea c hm l ?_
  refine PySem.W.callWith_K (first := [.ref a]) (h₀ := X.base) I.ok.mod.kin hm.kp (thn (ha.run pos pins s1 σ H1 _ I1 q) fun us s2 ⟨vs, H2, I2, r, q2⟩ => ⟨I2.kIn, ?_⟩) hst hpl
  exact run_fnSD (us := .ref a :: us) (vs := .ref a :: vs) F hr hb hd (hx σ) I2 (.cons rfl r) q2
theorem pe_methSD0 {pl : Sem Bool} (he : PE X o ta) (c : Cls X.K C) (hm : Meth X.K C m f) (F : FnOk X.prog X.w X.K X.mg X.base CX k f fd ps sp) (hr : Room k X.A) (hb : Binds X.K fd ps ds) (hd : Vals dvs ds) (hx : ∀ σ, PassesAt CX X σ (E σ))
    (ht : eval (.Call (.Attribute o m apos) [] [] pos) X.env = (do
      let ov ← eval o X.env
      standAt apos.atName
      let (f, first) ← holding [ov] (getMethod ov m pl)
      callWith pos f first (backTo pos (starEach [] X.env)) (backToKw pos (keywordEach [] X.env))) := by rfl) :
    PE X (.Call (.Attribute o m apos) [] [] pos) (tMethSD C m sp dvs E ta tNil) := by
  refine ⟨fun pins s σ H Q I h => ?_⟩
  refine PySem.W.methodCall_KW (pl := pl) (thn (he.run pins s σ H _ I h) fun u s1 ⟨x, H1, I1, rx, a, dx, fs, ex, ea, l, q⟩ => ?_) ht
  subst ex
  obtain rfl : u = Value.ref a := rx
  refine getmeth_ok I1 ea c hm l ?_
  exact PySem.W.callWith_K0 (first := [.ref a]) I1.kIn hm.kp (run_fnSD (us := [.ref a]) (vs := [.ref a]) F hr hb hd (hx σ) I1 (.cons rfl .nil) q)
end

/-! ### own errors with one field -/
/-- what __init__ of such an error does: self.f = v -/
def spXI (C : Addr) (f : Str) : Sp := fun vs H Q _ => ∃ (a : Addr) (y : V), vs = [.ref a, y] ∧ H a = some (exo a C none) ∧ ∀ dx, H dx = none → dx ≠ a → Q .non (upd (upd H dx (exd dx [(f, y)])) a (exo a C (some dx)))
/-- all that is asked of the class x of errors at C, whose field is f -/
structure XCls (P : Program) (w : World) (K : PySem.W.Frag) (mg : Str → Option Value) (base : Heap) (x f : Str) (C : Addr) : Prop where
  ox : OexC K C
  gC : mg x = some (.ref C)
  noA : PySem.W.findIn K (.ref C) f = some none
  ec : ExcC K C
  ini : ∃ (fI : Addr) (fd : FuncData), PySem.W.findIn K (.ref C) "__init__" = some (some (.ref fI)) ∧ PySem.W.typeIn K (.ref fI) = some (.type "function") ∧ FnOk P w K mg base CX0 1 fI fd ["self", f] (spXI C f) ∧ Binds K fd ["self", f] []
theorem XCls.xf {P : Program} {w : World} {K : PySem.W.Frag} {mg : Str → Option Value} {base : Heap} {x f : Str} {C : Addr} (T : XCls P w K mg base x f C) : XfC K C := ⟨T.ec.hg, T.ec.hk, T.ec.hs, T.ec.hd⟩
section
variable {X : Cx} {C : Addr} {x f : Str} {e : Expr} {te : TE} {p pos pos2 : Pos}
theorem pmk_X (T : XCls X.prog X.w X.K X.mg X.base x f C) (hr : Room 2 X.A) (he : PE X e te) (hg : Gl X x) (hdb : (x == ("__debug__" : Str)) = false := by decide)
    (hs : starEach [e] X.env = (false, eval e X.env) :: starEach [] X.env := by rfl) (hpl : (backTo pos (starEach [] X.env)).any (·.1) = false := by rfl) :
    PMk X (.Call (.Name x p) [e] [] pos) (tMkO C (spXI C f) [] (tCons te tNil)) := by
  obtain ⟨fI, fd, i1, i2, F, b⟩ := T.ini
  exact pmk_oex (dvs := []) (ds := []) T.ox i1 i2 F hr b .nil pass0 hg T.gC (pa_cons he pa_nil hs) hdb hs hpl
/-- what is left to be shown behind the argument y -/
theorem mkX_fin {H1 : Hp} {y : V} {Q : XK} (h : ∀ d, H1 d = none → Q (.ref C) (some d) (upd H1 d (.xd [(f, y)]))) :
    [y].length ≤ 1000 ∧ ∀ a, H1 a = none → spXI C f (.ref a :: ([y] ++ [])) (upd H1 a (exo a C none))
      (fun v H2 => v = .non ∧ ∃ (d : Addr) (fs : List (Str × V)), H2 a = some (exo a C (some d)) ∧ H2 d = some (exd d fs) ∧ H1 d = none ∧ Q (.ref C) (some d) (upd (del H2 a) d (.xd fs))) (fun _ _ _ => False) := by
  refine ⟨by show 1 ≤ 1000; decide, fun a ha => ⟨a, y, rfl, upd_same, fun dx hdx hne => ⟨rfl, dx, [(f, y)], upd_same, ?_, ?_, ?_⟩⟩⟩
  · rw [upd_ne hne, upd_same]
  · rw [upd_ne hne] at hdx
    exact hdx
  · have hdx' : H1 dx = none := by
      rw [upd_ne hne] at hdx
      exact hdx
    have e : upd (del (upd (upd (upd H1 a (exo a C none)) dx (exd dx [(f, y)])) a (exo a C (some dx))) a) dx (.xd [(f, y)]) = upd H1 dx (.xd [(f, y)]) := by
      funext b
      by_cases hb : b = dx
      · rw [hb, upd_same, upd_same]
      · rw [upd_ne hb, upd_ne hb]
        by_cases hba : b = a
        · rw [hba, del_same, ha]
        · rw [del_ne hba, upd_ne hba, upd_ne hb, upd_ne hba]
    rw [e]
    exact h dx hdx'
end
end L2

set_option Elab.async false
set_option maxRecDepth 100000
set_option maxHeartbeats 4000000
namespace L2
open PySem PySem.Spec PyProof.Rows
section
variable (P : Program) (w : World) (K : PySem.W.Frag) (mg : Str → Option Value) (base : Heap)
/-- a def of the top, as the text has it -/
structure DefAt (x : Str) (st : Stmt) (ps : List Str) : Prop where
  ex : ∃ (f : Addr) (fd : FuncData), Fun K x x st f fd ∧ mg x = some (.ref f) ∧ Binds K fd ps []
/-- a def of the top that keeps its promise -/
structure Own (CX : CXT) (x : Str) (k : Nat) (ps : List Str) (sp : Sp) : Prop where
  ex : ∃ (f : Addr) (fd : FuncData), FnOk P w K mg base CX k f fd ps sp ∧ mg x = some (.ref f) ∧ PySem.W.keepIn K (.ref f) = true ∧ Binds K fd ps []
/-- a method of the class at C, as the text has it; one that keeps its promise -/
structure MethAt (C : Addr) (m qual : Str) (st : Stmt) (ps : List Str) : Prop where
  ex : ∃ (f : Addr) (fd : FuncData), Fun K m qual st f fd ∧ PySem.W.findIn K (.ref C) m = some (some (.ref f)) ∧ PySem.W.isFn K (.ref f) = true ∧ Binds K fd ps []
structure OwnM (CX : CXT) (C : Addr) (m : Str) (k : Nat) (ps : List Str) (sp : Sp) : Prop where
  ex : ∃ (f : Addr) (fd : FuncData), FnOk P w K mg base CX k f fd ps sp ∧ Meth K C m f ∧ PySem.W.isFn K (.ref f) = true ∧ Binds K fd ps []
/-- a class of the top with an own __init__ that keeps its promise -/
structure OwnC (CX : CXT) (x : Str) (C : Addr) (k : Nat) (ps : List Str) (sp : Sp) : Prop where
  ex : ∃ (f : Addr) (fd : FuncData), FnOk P w K mg base CX k f fd ps sp ∧ Mk K C f ∧ mg x = some (.ref C) ∧ Binds K fd ps []
end
section
variable {P : Program} {w : World} {K : PySem.W.Frag} {mg : Str → Option Value} {base : Heap} {CX : CXT} {x m qual : Str} {k : Nat} {ps : List Str} {sp : Sp} {st : Stmt} {C : Addr}
theorem DefAt.own (D : DefAt K mg x st ps) (h : ∀ f fd, Fun K x x st f fd → FnOk P w K mg base CX k f fd ps sp) : Own P w K mg base CX x k ps sp := by
  obtain ⟨f, fd, F, hm, hb⟩ := D.ex
  exact ⟨f, fd, h f fd F, hm, F.kp, hb⟩
theorem MethAt.own (D : MethAt K C m qual st ps) (h : ∀ f fd, Fun K m qual st f fd → FnOk P w K mg base CX k f fd ps sp) : OwnM P w K mg base CX C m k ps sp := by
  obtain ⟨f, fd, F, hm, hi, hb⟩ := D.ex
  exact ⟨f, fd, h f fd F, ⟨hm, hi, F.kp⟩, hi, hb⟩
theorem MethAt.cls (D : MethAt K C "__init__" qual st ps) (h : ∀ f fd, Fun K "__init__" qual st f fd → FnOk P w K mg base CX k f fd ps sp) (m1 : PySem.W.makesIn K C = true) (m2 : PySem.W.keepIn K (.ref C) = true) (m3 : mg x = some (.ref C)) :
    OwnC P w K mg base CX x C k ps sp := by
  obtain ⟨f, fd, F, hm, hi, hb⟩ := D.ex
  exact ⟨f, fd, h f fd F, ⟨m1, hm, hi, m2⟩, m3, hb⟩
end
section
variable {X : Cx} {CX : CXT} {x m : Str} {k : Nat} {ps : List Str} {sp : Sp} {e o : Expr} {es : List Expr} {t : TA} {ta : TE} {p pos apos : Pos} {C : Addr}
theorem pe_own (O : Own X.prog X.w X.K X.mg X.base CX x k ps sp) (hr : Room k X.A) (hx : Passes CX X E0) (ha : PA X (e :: es) t) (hg : Gl X x := by rfl) (hdb : (x == ("__debug__" : Str)) = false := by decide)
    (he : starEach (e :: es) X.env = (false, eval e X.env) :: starEach es X.env := by rfl) (hpl : (backTo pos (starEach es X.env)).any (·.1) = false := by rfl) : PE X (.Call (.Name x p) (e :: es) [] pos) (tCall sp [] E0 t) := by
  obtain ⟨f, fd, F, hm, hk, hb⟩ := O.ex
  exact pe_call F hr hg hm hk hb .nil hx ha hdb he hpl
theorem pe_own0 (O : Own X.prog X.w X.K X.mg X.base CX x k ps sp) (hr : Room k X.A) (hx : Passes CX X E0) (hg : Gl X x := by rfl) (hdb : (x == ("__debug__" : Str)) = false := by decide) : PE X (.Call (.Name x p) [] [] pos) (tCall sp [] E0 tNil) := by
  obtain ⟨f, fd, F, hm, hk, hb⟩ := O.ex
  exact pe_call0 F hr hg hm hk hb .nil hx hdb
/-- one that may raise; W is wished for what it raises -/
theorem pe_ownS {W : WX} (O : Own X.prog X.w X.K X.mg X.base (L2.CX X.prog X.w) x k ps sp) (hr : Room k X.A) (tk : Takes X W) (ha : PA X (e :: es) t) (hg : Gl X x := by rfl) (hdb : (x == ("__debug__" : Str)) = false := by decide)
    (he : starEach (e :: es) X.env = (false, eval e X.env) :: starEach es X.env := by rfl) (hpl : (backTo pos (starEach es X.env)).any (·.1) = false := by rfl) : PE X (.Call (.Name x p) (e :: es) [] pos) (tCallS sp (WE W) t) := by
  obtain ⟨f, fd, F, hm, hk, hb⟩ := O.ex
  exact pe_callS F hr hg hm hk hb (fun σ => passAt tk σ) ha hdb he hpl
theorem pe_new (O : OwnC X.prog X.w X.K X.mg X.base CX x C k ps sp) (hr : Room (k + 1) X.A) (hx : Passes CX X E0) (ha : PA X (e :: es) t) (hg : Gl X x := by rfl) (hdb : (x == ("__debug__" : Str)) = false := by decide)
    (he : starEach (e :: es) X.env = (false, eval e X.env) :: starEach es X.env := by rfl) (hpl : (backTo pos (starEach es X.env)).any (·.1) = false := by rfl) : PE X (.Call (.Name x p) (e :: es) [] pos) (tMake C sp [] E0 t) := by
  obtain ⟨f, fd, F, M, hm, hb⟩ := O.ex
  exact pe_make M F hr hg hm hb .nil hx ha hdb he hpl
theorem pe_newS {W : WX} (O : OwnC X.prog X.w X.K X.mg X.base (L2.CX X.prog X.w) x C k ps sp) (hr : Room (k + 1) X.A) (tk : Takes X W) (ha : PA X (e :: es) t) (hg : Gl X x := by rfl) (hdb : (x == ("__debug__" : Str)) = false := by decide)
    (he : starEach (e :: es) X.env = (false, eval e X.env) :: starEach es X.env := by rfl) (hpl : (backTo pos (starEach es X.env)).any (·.1) = false := by rfl) : PE X (.Call (.Name x p) (e :: es) [] pos) (tMakeS C sp [] (WE W) t) := by
  obtain ⟨f, fd, F, M, hm, hb⟩ := O.ex
  exact pe_makeS M F hr hg hm hb .nil (fun σ => passAt tk σ) ha hdb he hpl
theorem pe_gint {n : Int} (hm : ∃ t, X.mg x = some (.int n t)) (hg : Gl X x := by rfl) (hd : (x == ("__debug__" : Str)) = false := by decide) : PE X (.Name x pos) (tC (.int n)) := by
  obtain ⟨t, hm⟩ := hm
  exact pe_glob hg hm ⟨t, rfl⟩ hd
theorem pe_gcls (hm : X.mg x = some (.ref C)) (hg : Gl X x := by rfl) (hd : (x == ("__debug__" : Str)) = false := by decide) : PE X (.Name x pos) (tC (.ref C)) := pe_glob hg hm rfl hd
end
/-! ### ==, != by own methods, len -/
section
variable {X : Cx} {CX : CXT} {k : Nat} {C : Addr} {ps : List Str} {sp : Sp}
structure NeM (K : PySem.W.Frag) (C : Addr) : Prop where
  ne : PySem.W.findIn K (.ref C) "__ne__" = some (some (.builtin "object.__ne__"))
  ob : PySem.W.mroIn K C (.type "object") = some true
theorem eqO (O : OwnM X.prog X.w X.K X.mg X.base CX C "__eq__" k ps sp) (N : NeM X.K C) (hr : Room k X.A) (hx : Passes CX X E0) : OpR X (compareOp .Eq) (rEqO X.K C sp) := by
  obtain ⟨f, fd, F, M, hi, hb⟩ := O.ex
  exact op_eqO F ⟨M.at_, hi, N.ne, N.ob⟩ hr hb hx
theorem neO (O : OwnM X.prog X.w X.K X.mg X.base CX C "__eq__" k ps sp) (N : NeM X.K C) (hr : Room (k + 1) X.A) (hx : Passes CX X E0) : OpR X (compareOp .NotEq) (rNeO X.K C sp) := by
  obtain ⟨f, fd, F, M, hi, hb⟩ := O.ex
  exact op_neO F ⟨M.at_, hi, N.ne, N.ob⟩ hr hb hx
theorem lenO (O : OwnM X.prog X.w X.K X.mg X.base CX C "__len__" k ps sp) (hr : Room (k + 1) X.A) (hx : Passes CX X E0) : CallR X (.builtin "len") (rLenO C sp) := by
  obtain ⟨f, fd, F, M, hi, hb⟩ := O.ex
  exact call_lenO F M.at_ hi hr hb hx
end
end L2

set_option Elab.async false
set_option maxRecDepth 100000
set_option maxHeartbeats 4000000
/-! kinds of plain values; their isinstance -/
namespace L2
open PySem PySem.Spec PyProof.Rows
inductive Knd | int | bool | none | str | list | tuple
  deriving DecidableEq
def Knd.name : Knd → String
  | .int => "int" | .bool => "bool" | .none => "NoneType" | .str => "str" | .list => "list" | .tuple => "tuple"
def KndOf (H : Hp) (v : V) : Knd → Prop
  | .int => ∃ n, v = .int n
  | .bool => ∃ b, v = .bl b
  | .none => v = .non
  | .str => ∃ s, v = .str s
  | .list => ∃ a xs, v = .ref a ∧ H a = some (.lst xs)
  | .tuple => ∃ a xs, v = .ref a ∧ H a = some (.tup xs)
def Knd.isInt : Knd → Bool | .int => true | .bool => true | _ => false
def Knd.isBool : Knd → Bool | .bool => true | _ => false
def Knd.isSeq : Knd → Bool | .list => true | .tuple => true | _ => false
def Knd.isTup : Knd → Bool | .tuple => true | _ => false
def Knd.isList : Knd → Bool | .list => true | _ => false
def Knd.isStr : Knd → Bool | .str => true | _ => false
section
variable {K : PySem.W.Frag} {H : Hp} {v : V} {k : Knd}
theorem knd_ty (h : KndOf H v k) : TyX K H v (.type k.name) := by
  cases k with
  | int => obtain ⟨n, rfl⟩ := h; exact .base (.int n)
  | bool => obtain ⟨n, rfl⟩ := h; exact .base (.bl n)
  | none => cases h; exact .base .non
  | str => obtain ⟨n, rfl⟩ := h; exact .base (.str n)
  | list => obtain ⟨a, xs, rfl, e⟩ := h; exact .base (.lst e)
  | tuple => obtain ⟨a, xs, rfl, e⟩ := h; exact .base (.tup e)
theorem knd_int : PySem.W.kitOne K (.type k.name) (.type "int") = some k.isInt := by cases k <;> exact kit_ty (by decide +kernel)
theorem knd_bool : PySem.W.kitOne K (.type k.name) (.type "bool") = some k.isBool := by cases k <;> exact kit_ty (by decide +kernel)
theorem knd_tup : PySem.W.kitOne K (.type k.name) (.type "tuple") = some k.isTup := by cases k <;> exact kit_ty (by decide +kernel)
theorem knd_list : PySem.W.kitOne K (.type k.name) (.type "list") = some k.isList := by cases k <;> exact kit_ty (by decide +kernel)
theorem knd_str : PySem.W.kitOne K (.type k.name) (.type "str") = some k.isStr := by cases k <;> exact kit_ty (by decide +kernel)
theorem knd_seq : PySem.W.kitAny K (.type k.name) [.type "list", .type "tuple"] = some k.isSeq := by
  cases k
  case list => exact kitAny_cons knd_list (by intro h; cases h) (fun _ => rfl)
  case tuple => exact kitAny_cons knd_list (fun _ => kitAny_cons knd_tup (by intro h; cases h) (fun _ => rfl)) (by intro h; cases h)
  all_goals exact kitAny_cons knd_list (fun _ => kitAny_cons knd_tup (fun _ => kitAny_nil) (by intro h; cases h)) (by intro h; cases h)
theorem KndOf.ext {H' : Hp} (h : KndOf H v k) (e : Ext H H') : KndOf H' v k := by
  cases k with
  | list => obtain ⟨a, xs, r, q⟩ := h; exact ⟨a, xs, r, e _ _ q⟩
  | tuple => obtain ⟨a, xs, r, q⟩ := h; exact ⟨a, xs, r, e _ _ q⟩
  | _ => exact h
theorem ki (n : Int) : KndOf H (.int n) .int := ⟨n, rfl⟩
theorem kb (n : Bool) : KndOf H (.bl n) .bool := ⟨n, rfl⟩
theorem kn : KndOf H .non .none := rfl
theorem ks (n : Str) : KndOf H (.str n) .str := ⟨n, rfl⟩
end
/-- a value that is an int from a to b -/
def betw (v : V) (a b : Int) : Bool := match v with
  | .int n => decide (a ≤ n) && decide (n ≤ b)
  | _ => false
theorem betw_int {n a b : Int} : betw (.int n) a b = (decide (a ≤ n) && decide (n ≤ b)) := rfl
theorem betw_not {H : Hp} {v : V} {k : Knd} {a b : Int} (h : KndOf H v k) (hk : (k.isInt && !k.isBool) = false) : betw v a b = false := by
  cases k with
  | int => cases hk
  | bool => obtain ⟨n, rfl⟩ := h; rfl
  | none => cases h; rfl
  | str => obtain ⟨n, rfl⟩ := h; rfl
  | list => obtain ⟨n, xs, rfl, _⟩ := h; rfl
  | tuple => obtain ⟨n, xs, rfl, _⟩ := h; rfl
theorem knd_yes {k : Knd} (h : (k.isInt && !k.isBool) = true) : k = .int := by cases k <;> first | rfl | cases h
/-! ### isinstance, read -/
section
variable {K : PySem.W.Frag} {σ : St} {H : Hp} {v : V} {k : Knd} {Q : VK} {te : TE}
theorem v_isI (hk : KndOf H v k) {b : Bool} {c : String} (e : PySem.W.kitOne K (.type k.name) (.type c) = some b) (q : Q (.bl b) H) : rIsi K [v, .ty c] H Q :=
  ⟨v, .ty c, .type k.name, .type c, b, rfl, .ty c, knd_ty hk, e, q⟩
end
end L2

set_option Elab.async false
set_option maxRecDepth 100000
set_option maxHeartbeats 4000000
namespace L2
open PySem PySem.Spec PyProof.Rows
section
variable {K : PySem.W.Frag} {C : Addr}
theorem no_ref (l : List String) : (l.map Value.type).contains (Value.ref C) = false := by
  induction l with
  | nil => rfl
  | cons a l ih =>
    rw [List.map_cons, List.contains_cons, ih]
    rfl
theorem sub_ty_ref {T : String} (h : (fastFind? T).isSome = true) : PySem.W.subIn K (.type T) (.ref C) = some false := by
  obtain ⟨r, hr⟩ := Option.isSome_iff_exists.mp h
  show (fastBuiltinMro T).map (·.contains (Value.ref C)) = some false
  unfold fastBuiltinMro
  rw [hr]
  show some ((r.mro.map Value.type).contains (Value.ref C)) = some false
  rw [no_ref]
theorem knd_find (k : Knd) : (fastFind? k.name).isSome = true := by cases k <;> decide +kernel
/-- all that is asked of an own plain class x at C -/
structure ClsX (K : PySem.W.Frag) (mg : Str → Option Value) (x : Str) (C : Addr) : Prop where
  gC : mg x = some (.ref C)
  cl : Cls K C
  ha : PySem.W.findIn K (.ref C) "__class__" = some (some (.builtin "object.__class__"))
  hn : PySem.W.specialIn K (.builtin "object.__class__") "__get__" = some (some (.builtin "getset_descriptor.__get__"))
  htk : PySem.W.takesIn K (.builtin "object.__class__") = some true
  hm : PySem.W.mroIn K C (.type "object") = some true
  ne : PySem.W.findIn K (.ref C) "__ne__" = some (some (.builtin "object.__ne__"))
  is : PySem.W.isClsIn K C = true
  ty : PySem.W.typeIn K (.ref C) = some (.type "type")
  tup : PySem.W.subIn K (.ref C) (.type "tuple") = some false
  lst : PySem.W.subIn K (.ref C) (.type "list") = some false
  int : PySem.W.subIn K (.ref C) (.type "int") = some false
  str : PySem.W.subIn K (.ref C) (.type "str") = some false
variable {mg : Str → Option Value} {x : Str}
theorem ClsX.neM (T : ClsX K mg x C) : NeM K C := ⟨T.ne, T.hm⟩
theorem ClsX.tyOf (T : ClsX K mg x C) {H : Hp} {a dx : Addr} {fs : List (Str × V)} (e : H a = some (.ins C dx fs)) : TyX K H (.ref a) (.ref C) := .base (.ins e T.cl T.ha T.hn T.htk T.hm)
theorem ClsX.me (_ : ClsX K mg x C) : PySem.W.kitOne K (.ref C) (.ref C) = some true := if_pos (beq_self_eq_true _)
theorem ClsX.nfMe (_ : ClsX K mg x C) : PySem.W.notFirst K C (.ref C) = true := by
  show (Value.ref C == Value.ref C || _) = true
  rw [beq_self_eq_true]
  rfl
theorem ClsX.kitB (T : ClsX K mg x C) {t : Value} {b : Bool} (h : PySem.W.subIn K t (.ref C) = some b) (hne : (t == .ref C) = false) : PySem.W.kitOne K t (.ref C) = some b := by
  have e : ((PySem.W.clsIn K C).isSome && PySem.W.typeIn K (.ref C) == some (.type "type")) = true := by
    have h1 : (PySem.W.clsIn K C).isSome = true := T.is
    rw [h1, T.ty]
    rfl
  show (if (t == Value.ref C) = true then some true else if ((PySem.W.clsIn K C).isSome && PySem.W.typeIn K (.ref C) == some (.type "type")) = true then PySem.W.subIn K t (.ref C) else none) = some b
  rw [hne, if_neg Bool.false_ne_true, if_pos e]
  exact h
theorem ClsX.kitK (T : ClsX K mg x C) (k : Knd) : PySem.W.kitOne K (.type k.name) (.ref C) = some false := T.kitB (sub_ty_ref (knd_find k)) rfl
theorem ClsX.nfK (_ : ClsX K mg x C) (k : Knd) : PySem.W.notFirst K C (.type k.name) = true := by
  show (Value.type k.name == Value.ref C || PySem.W.subIn K (.type k.name) (.ref C) == some false) = true
  rw [sub_ty_ref (knd_find k)]
  exact Bool.or_eq_true_iff.mpr (.inr (by decide))
theorem kit_meta {T : String} {b : Bool} (h : PySem.W.subIn K (.ref C) (.type T) = some b) (hm : PySem.W.kitMeta T = true) : PySem.W.kitOne K (.ref C) (.type T) = some b := by
  show (if (Value.ref C == Value.type T) = true then some true else if PySem.W.kitMeta T = true then PySem.W.subIn K (.ref C) (.type T) else none) = some b
  rw [show (Value.ref C == Value.type T) = false from rfl, if_neg Bool.false_ne_true, if_pos hm]
  exact h
theorem ClsX.kTup (T : ClsX K mg x C) : PySem.W.kitOne K (.ref C) (.type "tuple") = some false := kit_meta T.tup (by decide +kernel)
theorem ClsX.kInt (T : ClsX K mg x C) : PySem.W.kitOne K (.ref C) (.type "int") = some false := kit_meta T.int (by decide +kernel)
theorem ClsX.kLst (T : ClsX K mg x C) : PySem.W.kitOne K (.ref C) (.type "list") = some false := kit_meta T.lst (by decide +kernel)
theorem ClsX.kStr (T : ClsX K mg x C) : PySem.W.kitOne K (.ref C) (.type "str") = some false := kit_meta T.str (by decide +kernel)
end
/-! ### an own error's class, from what the top has written -/
section
variable {P : Program} {w : World} {K : PySem.W.Frag} {mg : Str → Option Value} {base : Heap} {x f : Str} {C : Addr}
/-- what k_is finds of the class -/
structure XAt (K : PySem.W.Frag) (mg : Str → Option Value) (x f : Str) (C : Addr) (st : Stmt) (qual : Str) : Prop where
  ox : OexC K C
  gC : mg x = some (.ref C)
  noA : PySem.W.findIn K (.ref C) f = some none
  ec : ExcC K C
  tI : ∃ fI, PySem.W.findIn K (.ref C) "__init__" = some (some (.ref fI)) ∧ PySem.W.typeIn K (.ref fI) = some (.type "function") ∧ ∃ fd, Fun K "__init__" qual st fI fd ∧ Binds K fd ["self", f] []
theorem XAt.cls {st : Stmt} {qual : Str} (T : XAt K mg x f C st qual) (h : ∀ fI fd, Fun K "__init__" qual st fI fd → FnOk P w K mg base CX0 1 fI fd ["self", f] (spXI C f)) : XCls P w K mg base x f C := by
  obtain ⟨fI, i1, i2, fd, F, b⟩ := T.tI
  exact ⟨T.ox, T.gC, T.noA, T.ec, fI, fd, i1, i2, h fI fd F, b⟩
end
/-! ### fields -/
section
theorem lk_put {f g : Str} {v : V} {fs : List (Str × V)} : List.lookup g ((f, v) :: fs) = if (g == f) = true then some v else List.lookup g fs := by
  simp only [List.lookup]
  split
  · rename_i h; rw [h, if_pos rfl]
  · rename_i h; rw [h, if_neg Bool.false_ne_true]
end
end L2

set_option Elab.async false
set_option maxRecDepth 100000
set_option maxHeartbeats 4000000
/-! plain data: lists and tuples of flat values, compared -/
namespace L2
open PySem PySem.Spec PyProof.Rows
def pd : V → PyData
  | .int i => .int i
  | .bl b => .bool b
  | .str s => .str s
  | _ => .none
/-- flat, its text (if it is one) within the model's signs -/
def Fl : V → Prop
  | .int _ => True
  | .bl _ => True
  | .non => True
  | .str s => PySem.PyData.canLay0 (.str s) = true
  | _ => False
section
variable {K : PySem.W.Frag} {H : Hp} {v u : V}
theorem dp_fl (h : Fl v) : Dp K H v (pd v) := by
  cases v <;> first | exact .int _ | exact .bl _ | exact .str _ | exact .non | exact h.elim
theorem dp_all : ∀ {vs : List V}, (∀ v ∈ vs, Fl v) → DpAll K H vs (vs.map pd)
  | [], _ => .nil
  | v :: vs, h => .cons (dp_fl (h v List.mem_cons_self)) (dp_all fun u hu => h u (List.mem_cons_of_mem _ hu))
theorem lay_fl (h : Fl v) : (pd v).canLay0 = true := by
  cases v <;> first | rfl | exact h | exact h.elim
theorem dep_fl : (pd v).depth = 0 := by cases v <;> rfl
theorem lay_all : ∀ {vs : List V}, (∀ v ∈ vs, Fl v) → PyData.canLayAll0 (vs.map pd) = true ∧ PyData.depthAll (vs.map pd) = 0
  | [], _ => ⟨rfl, rfl⟩
  | v :: vs, h => by
    obtain ⟨a, b⟩ := lay_all (vs := vs) fun u hu => h u (List.mem_cons_of_mem _ hu)
    constructor
    · show ((pd v).canLay0 && PyData.canLayAll0 (vs.map pd)) = true
      rw [lay_fl (h v List.mem_cons_self), a]
      rfl
    · show max (pd v).depth (PyData.depthAll (vs.map pd)) = 0
      rw [dep_fl, b]
      rfl
theorem shp_fl (h : Fl v) : SeqAt.shaped (pd v) = true := by
  show ((pd v).canLay0 && decide ((pd v).depth ≤ 64)) = true
  rw [lay_fl h, dep_fl]
  rfl
theorem shp_tup {vs : List V} (h : ∀ v ∈ vs, Fl v) : SeqAt.shaped (.tuple (vs.map pd)) = true := by
  obtain ⟨a, b⟩ := lay_all h
  show (PyData.canLayAll0 (vs.map pd) && decide (PyData.depthAll (vs.map pd) + 1 ≤ 64)) = true
  rw [a, b]
  rfl
theorem shp_lst {vs : List V} (h : ∀ v ∈ vs, Fl v) : SeqAt.shaped (.list (vs.map pd)) = true := by
  obtain ⟨a, b⟩ := lay_all h
  show (PyData.canLayAll0 (vs.map pd) && decide (PyData.depthAll (vs.map pd) + 1 ≤ 64)) = true
  rw [a, b]
  rfl
theorem fl_int (n : Int) : Fl (.int n) := trivial
theorem fl_ints {ns : List Int} : ∀ v ∈ ns.map V.int, Fl v := fun v hv => by
  obtain ⟨n, _, rfl⟩ := List.mem_map.mp hv
  trivial
theorem eqv_ints : ∀ (ns ms : List Int), PyData.eqvAll ((ns.map V.int).map pd) ((ms.map V.int).map pd) = decide (ns = ms)
  | [], [] => rfl
  | [], _ :: _ => rfl
  | _ :: _, [] => rfl
  | n :: ns, m :: ms => by
    show ((n == m) && PyData.eqvAll ((ns.map V.int).map pd) ((ms.map V.int).map pd)) = decide (n :: ns = m :: ms)
    rw [eqv_ints ns ms, Bool.eq_iff_iff]
    simp
/-- the same values are equal data -/
theorem eqv_same : ∀ {vs : List V}, (∀ v ∈ vs, Fl v) → PyData.eqvAll (vs.map pd) (vs.map pd) = true
  | [], _ => rfl
  | v :: vs, h => by
    show (PyData.eqv (pd v) (pd v) && PyData.eqvAll (vs.map pd) (vs.map pd)) = true
    rw [eqv_same (vs := vs) fun u hu => h u (List.mem_cons_of_mem _ hu), Bool.and_true]
    cases v <;> first | rfl | (show (_ == _) = true; exact beq_self_eq_true _)
/-- two tuples compared (op_eqD, op_neD): what is left -/
theorem eqD_tup {p q : Addr} {vs us : List V} {Q : VK} (hp : SqT K H p vs) (hq : SqT K H q us) (fv : ∀ v ∈ vs, Fl v) (fu : ∀ v ∈ us, Fl v) (h : Q (.bl (PyData.eqvAll (vs.map pd) (us.map pd))) H) : rEqD K (.ref p) (.ref q) H Q :=
  ⟨_, _, .tup hp (dp_all fv), .tup hq (dp_all fu), shp_tup fv, shp_tup fu, h⟩
theorem neD_tup {p q : Addr} {vs us : List V} {Q : VK} (hp : SqT K H p vs) (hq : SqT K H q us) (fv : ∀ v ∈ vs, Fl v) (fu : ∀ v ∈ us, Fl v) (h : Q (.bl (!PyData.eqvAll (vs.map pd) (us.map pd))) H) : rNeD K (.ref p) (.ref q) H Q :=
  ⟨_, _, .tup hp (dp_all fv), .tup hq (dp_all fu), shp_tup fv, shp_tup fu, h⟩
theorem eqD_lst {p q : Addr} {vs us : List V} {Q : VK} (hp : SqL K H p vs) (hq : SqL K H q us) (fv : ∀ v ∈ vs, Fl v) (fu : ∀ v ∈ us, Fl v) (h : Q (.bl (PyData.eqvAll (vs.map pd) (us.map pd))) H) : rEqD K (.ref p) (.ref q) H Q :=
  ⟨_, _, .lst hp (dp_all fv), .lst hq (dp_all fu), shp_lst fv, shp_lst fu, h⟩
theorem neD_lst {p q : Addr} {vs us : List V} {Q : VK} (hp : SqL K H p vs) (hq : SqL K H q us) (fv : ∀ v ∈ vs, Fl v) (fu : ∀ v ∈ us, Fl v) (h : Q (.bl (!PyData.eqvAll (vs.map pd) (us.map pd))) H) : rNeD K (.ref p) (.ref q) H Q :=
  ⟨_, _, .lst hp (dp_all fv), .lst hq (dp_all fu), shp_lst fv, shp_lst fu, h⟩
end
end L2

set_option Elab.async false
set_option maxRecDepth 100000
set_option maxHeartbeats 4000000
namespace L2
open PySem PySem.Spec PyProof.Rows
section
variable {X : Cx}
/-- range(j), kept -/
theorem cr_range1 : CallR X (.type "range") (fun vs H Q => ∃ j, vs = [V.int j] ∧ ∀ p, H p = none → Q (.ref p) (upd H p (.rng 0 j))) := by
  intro pins s σ H vs us Q I r h
  obtain ⟨j, rfl, q⟩ := h
  obtain ⟨u1, rfl, rj⟩ := vals1 r
  obtain ⟨t, rfl⟩ := rj
  refine call_range_1 ⟨.ref s.heap.objs.size, upd H s.heap.objs.size (.rng 0 j), I.laid (t' := s.toks + 1 + 1) (fun b o e => Heap.get?_push_of_some _ e) (Nat.le_refl _) ?_, rfl, q _ (I.hok.fresh (Nat.le_refl _))⟩
  exact ⟨s.toks, t, s.toks + 1, Heap.get?_push_size _ rfl⟩
/-- len of a range -/
theorem call_lenR : CallR X (.builtin "len") (fun xs H Q => ∃ a lo hi, xs = [.ref a] ∧ H a = some (.rng lo hi) ∧ (hi - lo).toNat < 2 ^ 62 ∧ Q (.int ((hi - lo).toNat : Int)) H) := by
  intro pins s σ H xs us Q I r h
  obtain ⟨a, lo, hi, rfl, ha, hz, q⟩ := h
  rw [Vals.ref1 r]
  obtain ⟨t, u, v, ho⟩ := I.hok a _ ha
  exact call_len_range (n := (hi - lo).toNat) ho (rangeSize_nat lo hi) (by omega) ⟨.int ((hi - lo).toNat : Int), H, I.tok _, ⟨_, rfl⟩, q⟩
/-- sum of a tuple of ints -/
def rSumT (K : PySem.W.Frag) : List V → Hp → VK → Prop := fun vs H Q => ∃ (a : Addr) (ns : List Int), vs = [V.ref a] ∧ SqT K H a (ns.map V.int) ∧ Q (.int ns.sum) H
theorem cr_sumT (hc : X.calm = true) : CallR X (.builtin "sum") (rSumT X.K) := by
  intro pins s σ H vs us Q I r h
  obtain ⟨a, ns, rfl, hs, q⟩ := h
  obtain ⟨its, rv, hl, _⟩ := I.tuple hs
  rw [Vals.ref1 r]
  have hi := rv.ints
  obtain ⟨xs, e⟩ := hi.allInts.items
  have hn : numsOf (intItems xs).toList = ns := by rw [← e]; exact hi.numsOf
  rw [nums_intItems] at hn
  rw [e] at hl
  refine PySem.W.ktm_sumG (I.ok.hd hc) hl fun h' tk t' hk => ?_
  rw [preSum_eq, List.take_of_length_le (by simp), hn]
  exact ⟨.int ns.sum, H, I.kept hk, ⟨_, rfl⟩, q⟩
end
end L2

set_option Elab.async false
set_option maxRecDepth 100000
set_option maxHeartbeats 4000000
namespace L2
open PySem PySem.Spec PyProof.Rows
/-- a list or tuple at p of the items xs -/
def Sq (H : Hp) (p : Addr) (xs : List V) : Prop := H p = some (.lst xs) ∨ H p = some (.tup xs)
section
variable {K : PySem.W.Frag} {H H' : Hp} {p : Addr} {xs : List V}
theorem Sq.k (h : Sq H p xs) : ∃ k, KndOf H (.ref p) k ∧ k.isSeq = true := by
  rcases h with h | h
  · exact ⟨.list, ⟨p, xs, rfl, h⟩, rfl⟩
  · exact ⟨.tuple, ⟨p, xs, rfl, h⟩, rfl⟩
theorem Sq.ext (h : Sq H p xs) (e : Ext H H') : Sq H' p xs := h.imp (e _ _) (e _ _)
theorem Sq.l (h : Sq H p xs) : SqL K H p xs ∨ SqT K H p xs := h.imp SqL.of SqT.of
theorem ext_mut {D : Addr} {o : HO} (e : Ext H H') (h : H D = none) : Ext H (upd H' D o) := fun a u ha => by
  rw [upd_ne (ne_of_none ha h)]
  exact e a u ha
theorem ext_none {D : Addr} (e : Ext H H') (h : H' D = none) : H D = none := by
  cases h1 : H D with
  | none => rfl
  | some o =>
    rw [e D o h1] at h
    cases h
end
section
variable {X : Cx} {tg : Expr}
/-- a list or a tuple is walked -/
def iSq (K : PySem.W.Frag) (tl : TE) : TI := fun σ H R => tl σ H fun x H1 => ∃ a, x = .ref a ∧ (((∃ xs, SqL K H1 a xs) ∧ R (Itl K a) H1) ∨ ((∃ xs, SqT K H1 a xs) ∧ R (Itt K a) H1))
theorem pi_sq {l : Expr} {tl : TE} (hl : PE X l tl) : PI X tg l (iSq X.K tl) := by
  refine ⟨fun pins s σ H R I h => ?_⟩
  refine thn (hl.run pins s σ H _ I h) fun v s1 ⟨x, H1, I1, r1, q1⟩ => ?_
  obtain ⟨a, e, q1⟩ := q1
  subst e
  cases r1
  rcases q1 with ⟨⟨xs, hq⟩, q⟩ | ⟨⟨xs, hq⟩, q⟩
  · obtain ⟨its, rv, p, hz⟩ := I1.list hq
    refine wpAny_pyIter_list p.isList ?_
    refine ⟨s1.heap.objs.size, [s1.heap.objs.size], _, _, H1, rfl, I1.kept (t' := s1.toks) fun b o e => Heap.get?_push_of_some _ e, turn_list a _, ⟨_, Heap.get?_push_size _ rfl, rfl, rfl⟩, fun b hb => ?_, q⟩
    have e : b = s1.heap.objs.size := by simpa using hb
    subst e
    exact I1.fpOk (Nat.le_refl _) (I1.hok.fresh (Nat.le_refl _))
  · obtain ⟨its, rv, p, hz⟩ := I1.tuple hq
    refine wpAny_pyIter_tuple (show s1.heap.IsTuple a its.toArray from p) ?_
    refine ⟨s1.heap.objs.size, [s1.heap.objs.size], _, _, H1, rfl, I1.kept (t' := s1.toks) fun b o e => Heap.get?_push_of_some _ e, turn_tuple a _, ⟨_, Heap.get?_push_size _ rfl, rfl, rfl⟩, fun b hb => ?_, q⟩
    have e : b = s1.heap.objs.size := by simpa using hb
    subst e
    exact I1.fpOk (Nat.le_refl _) (I1.hok.fresh (Nat.le_refl _))
end
section
variable {K : PySem.W.Frag} {σ : St} {H : Hp} {p : Addr} {xs : List V} {te : TE} {tt : TT} {j : Nat} {vs : List Nat} {Q : VK}
theorem take_snoc {α : Type} {l : List α} {i : Nat} {x : α} (h : l[i]? = some x) : l.take (i + 1) = l.take i ++ [x] := by
  rw [List.take_add_one, h]
  rfl
/-- [f(x) for x in xs if b(x)], what is tested and made only adding to the heap: the reading behind the source's own -/
theorem lc_sqR {Qd : Addr → Hp → Prop} {f : V → V} {b : V → Bool} (hx : Sq H p xs) (hz : xs.length < sizeLine) (hw : ∀ x, wipe ((wipe σ vs).set j (some x)) vs = wipe σ vs)
    (ht : ∀ x ∈ xs, ∀ H', Ext H H' → ∀ Q : Bool → Hp → Prop, (∀ H'', Ext H' H'' → Q (b x) H'') → tt ((wipe σ vs).set j (some x)) H' Q)
    (he : ∀ x ∈ xs, b x = true → ∀ H', Ext H H' → ∀ Q : VK, (∀ H'', Ext H' H'' → Q (f x) H'') → te ((wipe σ vs).set j (some x)) H' Q)
    (q : ∀ D H', H D = none → Ext H H' → H' D = some (.lst ((xs.filter b).map f)) → Qd D H') :
    ((∃ xs, SqL K H p xs) ∧ (fun J H1 => ∀ D, H1 D = none → ∃ W : Nat → Nat → Hp → Prop, (∃ m, W 0 m (upd H1 D (.lst []))) ∧ ∀ i m H, W i m H →
      (J.stop i H ∧ Qd D H) ∨ (J.go i H ∧ ∃ Nx : Hp → Prop, (∀ H', Nx H' → ∃ m', m' < m ∧ W (i + 1) m' H') ∧ ∀ x H', J.yld i H x H' → gName j x (wipe σ vs) H' fun σ2 H2 => wipe σ2 vs = wipe σ vs ∧ tt σ2 H2 fun b H3 =>
        if b = true then te σ2 H3 fun y H4 => ∃ acc, H4 D = some (.lst acc) ∧ acc.length < sizeLine ∧ Nx (upd H4 D (.lst (acc ++ [y]))) else Nx H3)) (Itl K p) H) ∨
    ((∃ xs, SqT K H p xs) ∧ (fun J H1 => ∀ D, H1 D = none → ∃ W : Nat → Nat → Hp → Prop, (∃ m, W 0 m (upd H1 D (.lst []))) ∧ ∀ i m H, W i m H →
      (J.stop i H ∧ Qd D H) ∨ (J.go i H ∧ ∃ Nx : Hp → Prop, (∀ H', Nx H' → ∃ m', m' < m ∧ W (i + 1) m' H') ∧ ∀ x H', J.yld i H x H' → gName j x (wipe σ vs) H' fun σ2 H2 => wipe σ2 vs = wipe σ vs ∧ tt σ2 H2 fun b H3 =>
        if b = true then te σ2 H3 fun y H4 => ∃ acc, H4 D = some (.lst acc) ∧ acc.length < sizeLine ∧ Nx (upd H4 D (.lst (acc ++ [y]))) else Nx H3)) (Itt K p) H) := by
  have turn : ∀ (D : Addr), H D = none → ∀ i x H', xs[i]? = some x → (Ext H H' ∧ H' D = some (.lst (((xs.take i).filter b).map f))) → gName j x (wipe σ vs) H' fun σ2 H2 => wipe σ2 vs = wipe σ vs ∧ tt σ2 H2 fun b' H3 =>
      if b' = true then te σ2 H3 fun y H4 => ∃ acc, H4 D = some (.lst acc) ∧ acc.length < sizeLine ∧ (Ext H (upd H4 D (.lst (acc ++ [y]))) ∧ upd H4 D (.lst (acc ++ [y])) D = some (.lst (((xs.take (i + 1)).filter b).map f))) else (Ext H H3 ∧ H3 D = some (.lst (((xs.take (i + 1)).filter b).map f))) := by
    intro D hD i x H' hi pv
    obtain ⟨e, hl⟩ := pv
    have hm : x ∈ xs := List.mem_of_getElem? hi
    refine ⟨hw x, ht x hm H' e _ fun H3 e3 => ?_⟩
    have hl3 : H3 D = some (.lst (((xs.take i).filter b).map f)) := e3 _ _ hl
    cases hb : b x with
    | true =>
      refine iteT (he x hm hb H3 (e.trans e3) _ fun H4 e4 => ⟨_, e4 _ _ hl3, ?_, ext_mut ((e.trans e3).trans e4) hD, ?_⟩)
      · rw [List.length_map]
        refine Nat.lt_of_le_of_lt (Nat.le_trans (List.length_filter_le _ _) ?_) hz
        exact List.length_take_le' _ _
      · rw [upd_same, take_snoc hi, List.filter_append, List.map_append]
        simp [hb]
    | false =>
      refine iteF ⟨e.trans e3, ?_⟩
      rw [hl3, take_snoc hi, List.filter_append, List.map_append]
      simp [hb]
  have fin : ∀ D, H D = none → ∀ H', (Ext H H' ∧ H' D = some (.lst (((xs.take xs.length).filter b).map f))) → Qd D H' := fun D hD H' pv => by
    rw [List.take_length] at pv
    exact q D H' hD pv.1 pv.2
  rcases hx with hx | hx
  · refine .inl ⟨⟨xs, SqL.of hx⟩, fun D hD => lc_list (xs := xs) (fun i H' => Ext H H' ∧ H' D = some (.lst (((xs.take i).filter b).map f))) ⟨Ext.upd hD, upd_same⟩ (fun i H' _ pv => SqL.of (pv.1 _ _ hx)) (fun i x H' hi pv => turn D hD i x H' hi pv) (fun H' pv => fin D hD H' pv)⟩
  · refine .inr ⟨⟨xs, SqT.of hx⟩, fun D hD => lc_tup (xs := xs) (fun i H' => Ext H H' ∧ H' D = some (.lst (((xs.take i).filter b).map f))) ⟨Ext.upd hD, upd_same⟩ (fun i H' _ pv => SqT.of (pv.1 _ _ hx)) (fun i x H' hi pv => turn D hD i x H' hi pv) (fun H' pv => fin D hD H' pv)⟩
end
theorem filter_all {α : Type} (l : List α) : l.filter (fun _ => true) = l := List.filter_eq_self.mpr fun _ _ => rfl
end L2

set_option Elab.async false
set_option maxRecDepth 100000
set_option maxHeartbeats 4000000
/-! enumerate over a list or a tuple -/
namespace PySem
open Sem (wp)
/-- the maker of enumerate, handed one thing whose iterator is told -/
theorem en1_meets {v : Value} {ob : Obj} {HP : Heap → Prop} (BG : Begins v ob HP) :
    Meets (Builtin.«enumerate.__new__» ⟨[.type "enumerate", v], []⟩) (fun _ RR sh => HP sh.heap ∧
      RR (.ok (.ret (.ref (sh.heap.push ob).objs.size)))
        { sh with heap := (sh.heap.push ob).push { cls := .type "enumerate", data := .fields #[.none, .bool false, .ref sh.heap.objs.size, rawInt 0, .none, .none] } }) :=
  .of_wp fun pr ww AA RR sh hh => by
    obtain ⟨hp, gg, dd, tk, os⟩ := sh
    obtain ⟨hh1, hh⟩ := hh
    have sub1 := sub_enumerate
    have begin1 : ∀ {A1 : Around} {E1 Q1 : Value → Shared → Prop}, Q1 (.ref hp.objs.size) ⟨hp.push ob, gg, dd, tk, os⟩ →
        wpAny (model pr ww) A1 (pyIter v) Q1 E1 ⟨hp, gg, dd, tk, os⟩ :=
      fun qq => BG.iter pr ww _ _ ⟨hp, gg, dd, tk, os⟩ _ hh1 qq
    wp_walk using begin1
    refine wpAny_stack_any fun sta => wpAny_pure ?_
    split
    · rename_i cc _ _ _ _ _
      cases (cc == Value.type "enumerate")
      all_goals
        wp_walk using begin1
        exact ⟨_, rfl, hh⟩
    · wp_walk using begin1
      exact ⟨_, rfl, hh⟩
section
variable {pr : Program} {ww : World} {AA : Around} {EE : Value → Shared → Prop} {sh : Shared}
theorem en1_call {v : Value} {ob : Obj} {HP : Heap → Prop} {QQ : Value → Shared → Prop} (BG : Begins v ob HP) (hh : HP sh.heap)
    (kk : ∀ h1, IsEnum h1 (sh.heap.objs.size + 1) sh.heap.objs.size 0 .none → h1.get? sh.heap.objs.size = some ob →
      (∀ x y, sh.heap.get? x = some y → h1.get? x = some y) → QQ (.ref (sh.heap.objs.size + 1)) { sh with heap := h1 }) :
    wpAny (model pr ww) AA (call (.type "enumerate") [v]) QQ EE sh := by
  refine callType_new F.called_enumerate (by decide) (F.typeCall_enumerate_1 _) (F.newCall_enumerate_1 _) (fun oo => F.args_object_init_2 oo _) F.entry_enumerate_new (en1_meets BG) ⟨hh, ?_⟩
  have sz : (sh.heap.push ob).objs.size = sh.heap.objs.size + 1 := Heap.size_push ..
  show _ ∧ _
  rw [sz]
  have en : IsEnum ((sh.heap.push ob).push { cls := .type "enumerate", data := .fields #[.none, .bool false, .ref sh.heap.objs.size, rawInt 0, .none, .none] })
      (sh.heap.objs.size + 1) sh.heap.objs.size 0 .none := by
    have qq := Heap.get?_push_size (sh.heap.push ob) (o := { cls := .type "enumerate", data := .fields #[.none, .bool false, .ref sh.heap.objs.size, rawInt 0, .none, .none] }) rfl
    rw [sz] at qq
    exact qq
  exact ⟨⟨_, en, rfl⟩, kk _ en (Heap.get?_push_of_some _ (Heap.get?_push_size _ BG.free)) fun x y hx => Heap.get?_push_of_some _ (Heap.get?_push_of_some _ hx)⟩
end
end PySem
namespace L2
open PySem PySem.Spec PyProof.Rows
/-- the tuple at a, each item in a new pair with its place -/
def Itet (K : PySem.W.Frag) (a : Addr) : It :=
  ⟨fun i H => ∃ xs : List V, SqT K H a xs ∧ i < xs.length,
    fun i H v H' => ∃ T x, v = .ref T ∧ H T = none ∧ H' = upd H T (.tup [.int (i : Nat), x]) ∧ ∀ xs, SqT K H a xs → xs[i]? = some x,
    fun i H => ∃ xs : List V, SqT K H a xs ∧ xs.length = i⟩
theorem turn_enT {P : Program} {w : World} {K : PySem.W.Frag} {elts : List Expr} {kk : Nat} {tpos : Pos} (a e it : Addr) (hea : e ≠ a) (hia : a ≠ it) :
    Turn P w K (.Tuple elts kk tpos) (Itet K a) [e, it] e (fun i h => (∃ old, IsEnum h e it ((i : Nat) : Int) old) ∧ h.IsTupleIter it a i ∧ e ≠ it) where
  mem := List.mem_cons_self
  obj := fun i h st b hb => by
    obtain ⟨⟨old, he⟩, ⟨o, ho, _, hd⟩, _⟩ := st
    rcases List.mem_cons.mp hb with z | z
    · subst z
      exact ⟨_, he, fun v q => nomatch q⟩
    · have z' := List.mem_singleton.mp z
      subst z'
      exact ⟨o, ho, fun v q => by rw [hd] at q; cases q⟩
  keep := fun i h h' st k => by
    obtain ⟨⟨old, he⟩, hi, hne⟩ := st
    exact ⟨⟨old, k e List.mem_cons_self _ he⟩, hi.at fun o q => k it (List.mem_cons_of_mem _ (List.mem_singleton.mpr rfl)) o q, hne⟩
  item := by
    intro X hP hw hK hc i pins s σ H E I hf st hg
    subst hP hw hK
    obtain ⟨⟨old, he⟩, hit, hne⟩ := st
    obtain ⟨xs, hq, hx⟩ := hg
    obtain ⟨its, rv, p, hz⟩ := I.tuple hq
    have hl := rv.length
    have hel : e < s.heap.objs.size := Heap.lt_size he
    have hil : it < s.heap.objs.size := by
      obtain ⟨_, q, _⟩ := hit
      exact Heap.lt_size q
    have D := Draws.tuple (prog := X.prog) (w := X.w) (A := X.A.in1) (show X.A.in1.handled = none from I.ok.hd hc) it a hia its.toArray
    refine wpAny_pyNext_enum_itemC D he (i := i) ⟨hit, p⟩ (by simp; omega) hne (by simp [hne, hea]) fun u h' tk hP ho hst' hT hsz hk => ?_
    have hu : its[i]? = some u := by simpa using hP
    obtain ⟨x, hxx⟩ : ∃ x, xs[i]? = some x := ⟨_, List.getElem?_eq_getElem hx⟩
    obtain ⟨u', hu', ru'⟩ := rv.get hxx
    have eu : u' = u := Option.some.inj (hu'.symm.trans hu)
    subst eu
    refine ⟨_, rfl, wpAny_letOwnedTupleGo_enum (s := { s with heap := h', toks := tk + 1 }) ho fun h2 he2 sb => ?_⟩
    have hT2 : h2.get? s.heap.objs.size = some { cls := .type "tuple", data := .seq #[.int i tk, u'] } := (sb.2 _ (Nat.ne_of_gt hel)).trans hT
    have new : ObjOk X.prog X.w (upd H s.heap.objs.size (.tup [.int (i : Nat), x])) h2 s.heap.objs.size (.tup [.int (i : Nat), x]) := by
      refine ⟨?_, [.int i tk, u'], .cons ⟨_, rfl⟩ (.cons ru' .nil), ⟨_, hT2, rfl, _, rfl⟩⟩
      show 2 ≤ sizeLine
      decide
    have I1 : Inv X pins σ (upd H s.heap.objs.size (.tup [.int (i : Nat), x])) { s with heap := h2, toks := tk + 1 } := by
      refine I.turnedNew (ch := [e, it]) (fun b ob hb q => ?_) hf (Nat.le_refl _) new
      have b1 : b ≠ e := fun z => hb (by simp [z])
      have b2 : b ≠ it := fun z => hb (by simp [z])
      exact (sb.2 b b1).trans (hk b ob b1 b2 q)
    refine ⟨.ref s.heap.objs.size, _, I1, rfl, ⟨_, x, rfl, I.hok.fresh (Nat.le_refl _), rfl, fun ys hy => ?_⟩, ⟨⟨u', ?_⟩, hst'.1.at fun o q => (sb.2 it (Ne.symm hne)).trans q, hne⟩, fun b hb => ?_⟩
    · obtain ⟨its2, rv2, p2, _⟩ := I.tuple hy
      rw [I.tuple_inj hy hq]
      exact hxx
    · have e1 : ((i + 1 : Nat) : Int) = (i : Int) + 1 := rfl
      rw [e1]
      exact he2
    · have hb' : b < s.heap.objs.size := by
        rcases List.mem_cons.mp hb with z | z
        · rw [z]
          exact hel
        · rw [List.mem_singleton.mp z]
          exact hil
      rw [upd_ne (Nat.ne_of_lt hb')]
      exact (hf b hb).1
  done := by
    intro X hP hw hK hc i pins s σ H E I hf st hg
    subst hP hw hK
    obtain ⟨⟨old, he⟩, hit, hne⟩ := st
    obtain ⟨xs, hq, hx⟩ := hg
    obtain ⟨its, rv, p, hz⟩ := I.tuple hq
    have hl := rv.length
    obtain ⟨f0, f1, f2, f3, f4, f5⟩ := hf it (List.mem_cons_of_mem _ (List.mem_singleton.mpr rfl))
    have D := Draws.tuple (prog := X.prog) (w := X.w) (A := X.A.in1) (show X.A.in1.handled = none from I.ok.hd hc) it a hia its.toArray
    have ei : i = its.toArray.size := by simp; omega
    refine wpAny_pyNext_enum_endD D he (by rw [← ei]; exact ⟨hit, p⟩) fun h' eb => ⟨rfl, ?_⟩
    exact I.turned (t' := s.toks) (fun b o hb q => eb b o hb q) f0 f1 f3 f4 f5
  self := fun A i s Q E st h => by
    obtain ⟨⟨_, he⟩, _⟩ := st
    exact wpAny_pyIter_enum he h
/-- a list or a tuple is walked with the places -/
def iEnSq (K : PySem.W.Frag) (ta : TA) : TI := fun σ H R => ta σ H fun vs H1 => ∃ a, vs = [.ref a] ∧ (((∃ xs, SqL K H1 a xs) ∧ R (Ite K a) H1) ∨ ((∃ xs, SqT K H1 a xs) ∧ R (Itet K a) H1))
theorem pi_enSq {X : Cx} {e : Expr} {ta : TA} {p pos tpos : Pos} {elts : List Expr} {kk : Nat} (hg : Gl X "enumerate") (hm : X.mg "enumerate" = none) (ha : PA X [e] ta) (hs : starEach [e] X.env = [(false, eval e X.env)] := by rfl) :
    PI X (.Tuple elts kk tpos) (.Call (.Name "enumerate" p) [e] [] pos) (iEnSq X.K ta) := by
  refine ⟨fun pins s σ H R I h => ?_⟩
  refine Call_ (ld_blt I hg hm boot_enumerate (PyProof.Rows.callWith_type1 (thn (ha.run pos pins s σ H _ I h) fun us s1 ⟨vs, H1, I1, r1, q1⟩ => ?_) hs rfl))
  obtain ⟨a, ex, q1⟩ := q1
  subst ex
  obtain rfl := Vals.ref1 r1
  have two : ∀ b, b ∈ [s1.heap.objs.size + 1, s1.heap.objs.size] → s1.heap.objs.size ≤ b := fun b hb => by
    rcases List.mem_cons.mp hb with z | z
    · rw [z]
      exact Nat.le_add_right _ _
    · rw [List.mem_singleton.mp z]
      exact Nat.le_refl _
  rcases q1 with ⟨⟨xs, hq⟩, q⟩ | ⟨⟨xs, hq⟩, q⟩
  · obtain ⟨its, rv, p', hz⟩ := I1.list hq
    refine en1_call (begins_list a its.toArray) p'.isList fun h' he hit hk => wpAny_pyIter_enum he ?_
    have I2 : Inv X pins σ H1 { s1 with heap := h' } := I1.kept (t' := s1.toks) hk
    refine ⟨s1.heap.objs.size + 1, [s1.heap.objs.size + 1, s1.heap.objs.size], _, _, H1, rfl, I2, turn_enum a (s1.heap.objs.size + 1) s1.heap.objs.size, ⟨⟨.none, he⟩, ⟨_, hit, rfl, rfl⟩, Nat.succ_ne_self _⟩, fun b hb => ?_, q⟩
    exact I1.fpOk (two b hb) (I1.hok.fresh (two b hb))
  · obtain ⟨its, rv, p', hz⟩ := I1.tuple hq
    have hlt : a < s1.heap.objs.size := by
      obtain ⟨o, ho, _⟩ := (show s1.heap.IsTuple a its.toArray from p')
      exact Heap.lt_size ho
    refine en1_call (begins_tuple a its.toArray) p' fun h' he hit hk => wpAny_pyIter_enum he ?_
    have I2 : Inv X pins σ H1 { s1 with heap := h' } := I1.kept (t' := s1.toks) hk
    refine ⟨s1.heap.objs.size + 1, [s1.heap.objs.size + 1, s1.heap.objs.size], _, _, H1, rfl, I2, turn_enT a (s1.heap.objs.size + 1) s1.heap.objs.size (Nat.ne_of_gt (Nat.lt_succ_of_lt hlt)) (Nat.ne_of_lt hlt), ⟨⟨.none, he⟩, ⟨_, hit, rfl, rfl⟩, Nat.succ_ne_self _⟩, fun b hb => ?_, q⟩
    exact I1.fpOk (two b hb) (I1.hok.fresh (two b hb))
section
variable {K : PySem.W.Frag} {a : Addr} {xs : List V}
theorem walk_enT : Walk (Itet K a) xs.length (fun H => SqT K H a xs) (YPair (fun i => some (.int (i : Nat))) (fun i => xs[i]?)) := by
  refine ⟨fun i _ hi q => ⟨xs, q, hi⟩, fun _ q => ⟨xs, q, rfl⟩, fun i H v H' _ q y => ?_⟩
  obtain ⟨T, x, e1, e2, e3, e4⟩ := y
  exact ⟨T, .int (i : Nat), x, e1, e2, e3, rfl, e4 xs q⟩
/-- the turns of an end: what goes on is N -/
def turnsOf (g : TG) (tb : TS) (D : Ends) (σ : St) (J : It) (H : Hp) : Prop := ∃ W : Nat → Nat → St → Hp → Prop, (∃ m, W 0 m σ H) ∧ ∀ i m σ H, W i m σ H →
  (J.stop i H ∧ D.nx σ H) ∨ (J.go i H ∧ ∃ N : St → Hp → Prop, (∀ σ' H', N σ' H' → ∃ m', m' < m ∧ W (i + 1) m' σ' H') ∧ ∀ x H', J.yld i H x H' → g x σ H' fun σ2 H2 => tb { D with nx := N, ct := N, bk := D.nx } σ2 H2)
theorem for_enSq {g : TG} {tb : TS} {D : Ends} {σ : St} {H : Hp} (hx : SqL K H a xs ∨ SqT K H a xs) (Pv : Nat → St → Hp → Prop) (h0 : Pv 0 σ H) (hE : ∀ i σ' H', Pv i σ' H' → Ext H H')
    (hs : ∀ i x σ' H' T, xs[i]? = some x → Pv i σ' H' → H' T = none → g (.ref T) σ' (upd H' T (.tup [.int (i : Nat), x])) fun σ2 H2 => tb { D with nx := Pv (i + 1), ct := Pv (i + 1), bk := D.nx } σ2 H2) (hd : ∀ σ' H', Pv xs.length σ' H' → D.nx σ' H') :
    ((∃ xs, SqL K H a xs) ∧ turnsOf g tb D σ (Ite K a) H) ∨ ((∃ xs, SqT K H a xs) ∧ turnsOf g tb D σ (Itet K a) H) := by
  have step : ∀ i x σ' H' H'', i < xs.length → Pv i σ' H' → YPair (fun i => some (V.int (i : Nat))) (fun i => xs[i]?) i H' x H'' → g x σ' H'' fun σ2 H2 => tb { D with nx := Pv (i + 1), ct := Pv (i + 1), bk := D.nx } σ2 H2 := by
    rintro i v σ' H' H'' hi pv ⟨T, x, y, rfl, hT, rfl, hx', hy⟩
    cases hx'
    exact hs i y σ' H' T hy pv hT
  rcases hx with hx | hx
  · exact .inl ⟨⟨xs, hx⟩, for_it (walk_enum (xs := xs)) Pv h0 (fun i σ' H' _ pv => hx.ext (hE i σ' H' pv)) step hd⟩
  · exact .inr ⟨⟨xs, hx⟩, for_it (walk_enT (xs := xs)) Pv h0 (fun i σ' H' _ pv => hx.ext (hE i σ' H' pv)) step hd⟩
end
end L2

set_option Elab.async false
set_option maxRecDepth 100000
set_option maxHeartbeats 4000000
/-! values told by the data that they hold -/
namespace L2
open PySem PySem.Spec PyProof.Rows
/-- the type's name -/
def tnD : PyData → String
  | .none => "NoneType" | .bool _ => "bool" | .int _ => "int" | .str _ => "str" | .list _ => "list" | .tuple _ => "tuple" | .dict _ => "dict"
def isIntD : PyData → Bool | .int _ => true | .bool _ => true | _ => false
def isBoolD : PyData → Bool | .bool _ => true | _ => false
def isTupD : PyData → Bool | .tuple _ => true | _ => false
def isListD : PyData → Bool | .list _ => true | _ => false
def isStrD : PyData → Bool | .str _ => true | _ => false
def isSeqD : PyData → Bool | .list _ => true | .tuple _ => true | _ => false
def isNoneD : PyData → Bool | .none => true | _ => false
/-- the int that it is, no truth -/
def betD (d : PyData) (a b : Int) : Bool := match d with
  | .int n => decide (a ≤ n) && decide (n ≤ b)
  | _ => false
def lenD : PyData → Nat | .list ds => ds.length | .tuple ds => ds.length | _ => 0
section
variable {K : PySem.W.Frag} {H H' : Hp} {v : V} {d : PyData}
theorem dp_ty (h : Dp K H v d) : TyX K H v (.type (tnD d)) := by
  cases h with
  | non => exact .base .non
  | bl b => exact .base (.bl b)
  | int i => exact .base (.int i)
  | str s => exact .base (.str s)
  | lst hs _ =>
    rcases hs with (h | ⟨o, h⟩) | ⟨o, its, n, e, c, _⟩
    · exact .base (.lst h)
    · exact .base (.frz h)
    · exact .kList e c
  | tup hs _ =>
    rcases hs with (h | ⟨o, h⟩) | ⟨o, its, n, e, c, _⟩
    · exact .base (.tup h)
    · exact .fTuple h
    · exact .kTuple e c
theorem kd_int : PySem.W.kitOne K (.type (tnD d)) (.type "int") = some (isIntD d) := by cases d <;> exact kit_ty (by dsimp only [tnD, isIntD]; decide +kernel)
theorem kd_bool : PySem.W.kitOne K (.type (tnD d)) (.type "bool") = some (isBoolD d) := by cases d <;> exact kit_ty (by dsimp only [tnD, isBoolD]; decide +kernel)
theorem kd_tup : PySem.W.kitOne K (.type (tnD d)) (.type "tuple") = some (isTupD d) := by cases d <;> exact kit_ty (by dsimp only [tnD, isTupD]; decide +kernel)
theorem kd_list : PySem.W.kitOne K (.type (tnD d)) (.type "list") = some (isListD d) := by cases d <;> exact kit_ty (by dsimp only [tnD, isListD]; decide +kernel)
theorem kd_seq : PySem.W.kitAny K (.type (tnD d)) [.type "list", .type "tuple"] = some (isSeqD d) := by
  unfold PySem.W.kitAny
  rw [kd_list]
  unfold PySem.W.kitAny
  rw [kd_tup]
  cases d <;> rfl
theorem kd_find : (fastFind? (tnD d)).isSome = true := by cases d <;> (dsimp only [tnD]; decide +kernel)
mutual
theorem dp_ext (e : Ext H H') : ∀ (d : PyData) (v : V), Dp K H v d → Dp K H' v d
  | .none, _, h => by cases h; exact .non
  | .bool _, _, h => by cases h; exact .bl _
  | .int _, _, h => by cases h; exact .int _
  | .str _, _, h => by cases h; exact .str _
  | .list ds, _, h => by
    cases h with
    | lst hs ha => exact .lst (hs.ext e) (dps_ext e ds _ ha)
  | .tuple ds, _, h => by
    cases h with
    | tup hs ha => exact .tup (hs.ext e) (dps_ext e ds _ ha)
  | .dict _, _, h => by cases h
theorem dps_ext (e : Ext H H') : ∀ (ds : List PyData) (vs : List V), DpAll K H vs ds → DpAll K H' vs ds
  | [], _, h => by cases h; exact .nil
  | d :: ds, _, h => by
    cases h with
    | cons h1 h2 => exact .cons (dp_ext e d _ h1) (dps_ext e ds _ h2)
end
theorem dps_len : ∀ {vs : List V} {ds : List PyData}, DpAll K H vs ds → vs.length = ds.length
  | [], _, h => by cases h; rfl
  | v :: vs, _, h => by
    cases h with
    | cons _ h2 => exact congrArg Nat.succ (dps_len h2)
theorem dps_get : ∀ {vs : List V} {ds : List PyData} {i : Nat} {v : V}, DpAll K H vs ds → vs[i]? = some v → ∃ d, ds[i]? = some d ∧ Dp K H v d
  | [], _, _, _, _, e => by cases e
  | v :: vs, _, i, _, h, e => by
    cases h with
    | @cons _ _ d ds h1 h2 =>
      cases i with
      | zero => cases e; exact ⟨d, rfl, h1⟩
      | succ i => exact dps_get (i := i) h2 e
theorem bet_int {n a b : Int} : betD (.int n) a b = (decide (a ≤ n) && decide (n ≤ b)) := rfl
theorem bet_not {a b : Int} (h : (isIntD d && !isBoolD d) = false) : betD d a b = false := by cases d <;> first | rfl | cases h
theorem bet_yes {a b : Int} (h : betD d a b = true) : ∃ n, d = .int n ∧ a ≤ n ∧ n ≤ b := by
  cases d <;> first | (rw [bet_int, Bool.and_eq_true, decide_eq_true_eq, decide_eq_true_eq] at h; exact ⟨_, rfl, h.1, h.2⟩) | cases h
theorem int_yes (h : (isIntD d && !isBoolD d) = true) : ∃ n, d = .int n := by cases d <;> first | exact ⟨_, rfl⟩ | cases h
theorem dp_int {n : Int} (h : Dp K H v (.int n)) : v = .int n := by cases h; rfl
theorem dp_seq (h : Dp K H v d) (hs : isSeqD d = true) : ∃ (a : Addr) (xs : List V) (ds : List PyData), v = .ref a ∧ (SqL K H a xs ∨ SqT K H a xs) ∧ DpAll K H xs ds ∧ (d = .list ds ∨ d = .tuple ds) := by
  cases h with
  | lst h ha => exact ⟨_, _, _, rfl, .inl h, ha, .inl rfl⟩
  | tup h ha => exact ⟨_, _, _, rfl, .inr h, ha, .inr rfl⟩
  | _ => cases hs
theorem dp_tup (h : Dp K H v d) (hs : isTupD d = true) : ∃ (a : Addr) (xs : List V) (ds : List PyData), v = .ref a ∧ SqT K H a xs ∧ DpAll K H xs ds ∧ d = .tuple ds := by
  cases h with
  | tup h ha => exact ⟨_, _, _, rfl, h, ha, rfl⟩
  | _ => cases hs
end
/-! ### own methods, called -/
section
variable {X : Cx} {CX : CXT} {m : Str} {k : Nat} {ps : List Str} {sp : Sp} {e o : Expr} {es : List Expr} {t : TA} {ta : TE} {pos apos : Pos} {C : Addr}
theorem pe_ownM0 {pl : Sem Bool} (O : OwnM X.prog X.w X.K X.mg X.base CX C m k ps sp) (he : PE X o ta) (c : Cls X.K C) (hr : Room k X.A) (hx : Passes CX X E0)
    (ht : eval (.Call (.Attribute o m apos) [] [] pos) X.env = (do
      let ov ← eval o X.env
      standAt apos.atName
      let (f, first) ← holding [ov] (getMethod ov m pl)
      callWith pos f first (backTo pos (starEach [] X.env)) (backToKw pos (keywordEach [] X.env))) := by rfl) :
    PE X (.Call (.Attribute o m apos) [] [] pos) (tMeth C m sp [] E0 ta tNil) := by
  obtain ⟨f, fd, F, M, _, hb⟩ := O.ex
  exact pe_meth0 he c M F hr hb .nil hx ht
theorem pe_ownM {pl : Sem Bool} (O : OwnM X.prog X.w X.K X.mg X.base CX C m k ps sp) (he : PE X o ta) (c : Cls X.K C) (hr : Room k X.A) (hx : Passes CX X E0) (ha : PA X (e :: es) t)
    (hst : starEach (e :: es) X.env = (false, eval e X.env) :: starEach es X.env := by rfl) (hpl : (backTo pos (starEach es X.env)).any (·.1) = false := by rfl)
    (ht : eval (.Call (.Attribute o m apos) (e :: es) [] pos) X.env = (do
      let ov ← eval o X.env
      standAt apos.atName
      let (f, first) ← holding [ov] (getMethod ov m pl)
      callWith pos f first (backTo pos (starEach (e :: es) X.env)) (backToKw pos (keywordEach [] X.env))) := by rfl) :
    PE X (.Call (.Attribute o m apos) (e :: es) [] pos) (tMeth C m sp [] E0 ta t) := by
  obtain ⟨f, fd, F, M, _, hb⟩ := O.ex
  exact pe_meth he c M F hr hb .nil hx ha hst hpl ht
end
end L2

set_option Elab.async false
set_option maxRecDepth 100000
set_option maxHeartbeats 4000000
/-! defs that are handed the error that the suite holds; classes made with defaults -/
namespace L2
open PySem PySem.Spec PyProof.Rows
section
variable {X : Cx}
/-- isinstance(e, c), e the held error, anywhere that it is pinned -/
theorem call_isEP {a D : Addr} {cls : Value} {d : Option Addr} {oe : Obj} (hpn : (a, oe) ∈ X.pn) (C : ExcC X.K D) (hz : Zc cls d oe) (hf : ∃ vs, oe.data = .fields vs) : CallR X (.builtin "isinstance") (rIsED X.K D a cls d) := by
  intro pins s σ H xs us Q I r h
  obtain ⟨ec0, hdd, c, cv, b, rfl, hcv, e, q⟩ := h
  subst ec0
  cases r with
  | cons rx rr =>
    cases rr with
    | cons rt rr =>
      cases rr
      cases rx
      have ec := hcv _ rt
      subst ec
      obtain ⟨hget, _⟩ := I.pin (a, oe) (List.mem_append.mpr (.inl hpn))
      obtain ⟨vs, hv⟩ := hf
      have J : ∃ od, PySem.W.InstAt s.heap a oe D od := by
        obtain ⟨oc, od, oda, osl⟩ := oe
        obtain ⟨h1, h2⟩ := hz
        dsimp only at h1 h2 hv
        subst h1 h2 hv
        cases od with
        | none => exact ⟨none, hget, rfl, rfl, trivial⟩
        | some dd =>
          obtain ⟨fs, hfs⟩ := hdd dd rfl
          obtain ⟨mA, hns, _⟩ := (show ObjOk X.prog X.w H s.heap dd (.xd fs) from I.hok dd _ hfs)
          obtain ⟨od, ho, _⟩ := lookIn_ns hns
          exact ⟨some od, hget, rfl, rfl, ho⟩
      exact PySem.W.kia_one (PySem.W.kitx_excD C) I.kIn J e (fun z => nomatch z) fun tk => ⟨.bl b, H, I.kept (t' := tk) fun _ _ z => z, rfl, q⟩
/-- e.f of it -/
theorem pe_xfP {a C : Addr} {oe : Obj} {cls : Value} {d : Option Addr} {e : Expr} {te : TE} {pos : Pos} {n : Str} (hpn : (a, oe) ∈ X.pn) (T : XfC X.K C) (hno : PySem.W.findIn X.K (.ref C) n = some none)
    (hz : Zc cls d oe) (hf : ∃ vs, oe.data = .fields vs) (he : PE X e te) (hb : attributeBase e n X.env (eval e X.env) = eval e X.env := by rfl) :
    PE X (.Attribute e n pos) (tXf a cls d C n te) := by
  refine ⟨fun pins s σ H Q I h => attr_of hb (thn (he.run pins s σ H _ I h) fun u s1 hh => ?_)⟩
  obtain ⟨x, H1, I1, rx, ex, ec, dd, fs, v, ed, ea, l, q⟩ := hh
  subst ex ec ed
  obtain rfl : u = Value.ref a := rx
  obtain ⟨hget, _⟩ := I1.pin (a, oe) (List.mem_append.mpr (.inl hpn))
  obtain ⟨vs, hv⟩ := hf
  obtain ⟨mA, hns, hr⟩ := (show ObjOk X.prog X.w H1 s1.heap dd (.xd fs) from I1.hok dd _ ea)
  obtain ⟨od, ho, hl⟩ := lookIn_ns hns
  obtain ⟨uu, hu, ru⟩ := RelO.some_of (v := v) (o := mA n) (by rw [← l]; exact hr n)
  have ncls : PySem.W.notCls oe = true := by
    unfold PySem.W.notCls
    rw [hv] <;> rfl
  have J : PySem.W.InstAt s1.heap a oe C (some od) := ⟨hget, hz.1, ncls, by rw [hz.2]; exact ho⟩
  have fo := PySem.W.findObj_own T.hdC hno (od := od) rfl (by rw [hl, hu])
  exact HandSPX.exc_get I1.kIn J T.ga T.gg T.exC fo (handed_of ru) ⟨v, H1, I1.tok _, ru, q⟩
end
end L2
namespace L2H
open PySem PySem.Spec PyProof.Rows L2 HotX
/-- such a def: its promise speaks of the held error, too -/
structure FnE (P : Program) (w : World) (K : PySem.W.Frag) (mg : Str → Option Value) (base : Heap) (CX : CXT) (k : Nat) (f : Addr) (fd : FuncData) (ps : List Str) (sp : Addr × Obj → Sp) : Prop where
  len : ∀ p vs H Q E, sp p vs H Q E → vs.length = ps.length
  run : ∀ (p : Addr × Obj) (AA : Around) (outer : List Env) (sh : Shared) (H : Hp) (args : Args) (us : List Value) (vs : List V) (Q : VK) (E : XK), RoomH k AA → PinOk outer H sh p → Env0 P w K mg base AA outer sh H →
    BindsTo sh fd args (ps.zip us) → Vals vs us → sp p vs H Q E → codeAny (model P w) AA (.call (.ref f) args) (CR CX outer P w H sh Q E) sh
section
variable {CX : CXT} {P : Program} {w : World} {K : PySem.W.Frag} {mg : Str → Option Value} {base : Heap} {k : Nat} {f : Addr} {fd : FuncData} {x qual : Str} {st : Stmt} {N ps : List Str} {sp : Addr × Obj → Sp}
theorem fnE_of (F : Fun K x qual st f fd) (S : FnScope N ps (defScope st)) (len : ∀ p vs H Q E, sp p vs H Q E → vs.length = ps.length)
    (hbody : ∀ (p : Addr × Obj) (cdv : Value) (AA : Around) (outer : List Env) (sh : Shared) (H : Hp) (vs : List V) (Q : VK) (E : XK), RoomH k (AA.deeper (envOfC qual (defScope st) sh.heap.objs.size f cdv)) → sp p vs H Q E →
      ∃ t, PSs (cxH CX P w K mg base N qual (defScope st) f cdv AA outer sh H E p) (defBody st) t ∧ t { nx := fun _ H' => Q .non H', rt := Q } (L2.start N vs) H) : FnE P w K mg base CX (k + 1) f fd ps sp := by
  obtain ⟨oc, od, kV, doc, pm, an, cdv, ct, osl, rfl, lk, hcd⟩ := F.ex
  refine ⟨len, fun p AA outer sh H args us vs Q E hr hpin e0 hb r hsp => ?_⟩
  have hl := len _ _ _ _ _ hsp
  have KX : K.In sh.heap := e0.mod.kin.keeps fun b o e => (e0.bs b o e).1
  have lim : sh.heap.NoLimit := e0.mod.nolimit.keeps fun b o e => (e0.bs b o e).1
  have binds : ∀ y ∈ ps.zip us, (defScope st).names.lookup y.1 = some .local ∨ ((defScope st).names.lookup y.1 = some .cell ∧ ((cellsFrom (sh.heap.objs.size + 1) (defScope st).names []).lookup y.1).isSome = true) := by
    rintro ⟨n, v⟩ hy
    rcases S.par n (List.of_mem_zip hy).1 with q | q
    · exact .inl q
    · exact .inr ⟨q, PySem.W.cellsFrom_some _ _ _ (.inl q)⟩
  refine codeAny_call_function hr.depth (KX _ _ lk) rfl S.co S.gen rfl (PySem.W.codeRec_of KX hcd) (hb _ _ _ _ ?_)
  refine wpAny_newFunctionEnv_cells S.kind binds fun env he s1 xx => ?_
  subst he
  refine ⟨lim.keeps xx.toInCall.keep, codeAny_func ?_⟩
  obtain ⟨t, ht, hq⟩ := hbody p cdv AA outer sh H vs Q E (hr.deeper _) hsp
  have I := inv_startH (CX := CX) (E := E) S hpin e0 hl r xx
  refine wpAny_mono (ht.run [] s1 (L2.start N vs) H _ I hq) (fun fl s' hs => ?_) fun _ _ hs => hs
  cases fl with
  | ret u =>
    obtain ⟨v, σ', H', J, rv, q⟩ := hs
    exact ⟨v, H', J.os, J.bare, J.base, J.hok, rv, q⟩
  | next =>
    obtain ⟨σ', H', J, q⟩ := hs
    exact ⟨V.non, H', J.os, J.bare, J.base, J.hok, rfl, q⟩
  | brk =>
    obtain ⟨_, _, _, q⟩ := hs
    exact q.elim
  | cont =>
    obtain ⟨_, _, _, q⟩ := hs
    exact q.elim
end
section
variable {X : Cx} {CX : CXT} {k : Nat} {f : Addr} {fd : FuncData} {ps : List Str} {sp : Addr × Obj → Sp} {x : Str} {q pos : Pos} {e : Expr} {es : List Expr} {t : TA} {p : Addr × Obj}
/-- f(e, ..) in the suite that holds p -/
theorem pe_callE (F : FnE X.prog X.w X.K X.mg X.base CX k f fd ps sp) (hr : RoomH k X.A) (hp : p ∈ X.pn) (hg : Gl X x) (hm : X.mg x = some (.ref f)) (hk : PySem.W.keepIn X.K (.ref f) = true) (hb : Binds X.K fd ps []) (hx : Passes CX X E0)
    (ha : PA X (e :: es) t) (hdb : (x == ("__debug__" : Str)) = false := by decide) (he : starEach (e :: es) X.env = (false, eval e X.env) :: starEach es X.env := by rfl) (hpl : (backTo pos (starEach es X.env)).any (·.1) = false := by rfl) :
    PE X (.Call (.Name x q) (e :: es) [] pos) (tCall (sp p) [] E0 t) := by
  refine ⟨fun pins s σ H Q I h => wpAny_Call_Name_kw (ld_glob I hg hm ?_ hdb)⟩
  refine PySem.W.callWith_K (h₀ := X.base) I.ok.mod.kin hk (thn (ha.run pos pins s σ H _ I h) fun us s1 ⟨vs, H1, I1, r, hsp⟩ => ⟨I1.kIn, ?_⟩) he hpl
  have hsp : sp p vs H1 Q E0 := by
    have z : sp p (vs ++ []) H1 Q E0 := hsp
    rwa [List.append_nil] at z
  have hl : us.length = ps.length := by
    rw [← r.length]
    exact F.len _ _ _ _ _ hsp
  have bd := hb s1 us I1.kIn (by rw [List.append_nil]; exact hl)
  rw [List.append_nil] at bd
  have P1 := I1.pin p (List.mem_append.mpr (.inl hp))
  have hpin : PinOk X.stack H1 s1 p := ⟨P1.1, P1.2.1, fun hm => (List.mem_cons.mp (I1.stkSub p.1 hm)).elim P1.2.2.1 P1.2.2.2.1, P1.2.2.2.2⟩
  refine wpAny_call (codeAny_mono (F.run p X.A X.stack s1 H1 ⟨us, []⟩ us vs Q E0 hr hpin I1.env0 bd r hsp) fun rr s' hq => ?_)
  match rr, hq with
  | .error ee, hq => exact hx pins σ H1 s1 ee s' I1 hq
  | .ok (.ret u), hq => exact I1.after hq
  | .ok .next, hq => exact hq.elim
  | .ok .brk, hq => exact hq.elim
  | .ok .cont, hq => exact hq.elim
end
end L2H
namespace L2
open PySem PySem.Spec PyProof.Rows
/-- a class of the top whose __init__ has defaults, dvs those that fill up -/
structure OwnCD (P : Program) (w : World) (K : PySem.W.Frag) (mg : Str → Option Value) (base : Heap) (CX : CXT) (x : Str) (C : Addr) (k : Nat) (ps : List Str) (sp : Sp) (dvs : List V) : Prop where
  ex : ∃ (f : Addr) (fd : FuncData) (ds : List Value), FnOk P w K mg base CX k f fd ps sp ∧ Mk K C f ∧ mg x = some (.ref C) ∧ Binds K fd ps ds ∧ Vals dvs ds
section
variable {X : Cx} {CX : CXT} {x : Str} {k : Nat} {ps : List Str} {sp : Sp} {e : Expr} {es : List Expr} {t : TA} {p pos : Pos} {C : Addr} {dvs : List V}
theorem pe_newD (O : OwnCD X.prog X.w X.K X.mg X.base CX x C k ps sp dvs) (hr : Room (k + 1) X.A) (hx : Passes CX X E0) (ha : PA X (e :: es) t) (hg : Gl X x := by rfl) (hdb : (x == ("__debug__" : Str)) = false := by decide)
    (he : starEach (e :: es) X.env = (false, eval e X.env) :: starEach es X.env := by rfl) (hpl : (backTo pos (starEach es X.env)).any (·.1) = false := by rfl) : PE X (.Call (.Name x p) (e :: es) [] pos) (tMake C sp dvs E0 t) := by
  obtain ⟨f, fd, ds, F, M, hm, hb, hv⟩ := O.ex
  exact pe_make M F hr hg hm hb hv hx ha hdb he hpl
end
end L2

set_option Elab.async false
set_option maxRecDepth 100000
set_option maxHeartbeats 4000000
/-! a op b op c op d -/
namespace L2
open PySem PySem.Spec PyProof.Rows
def tCh3 (r r' r2 : R2) (ta tb tc td : TE) : TE := fun σ H Q => ta σ H fun x H1 => tb σ H1 fun y H2 => r x y H2 fun z H3 => ∃ k, z = .bl k ∧
  (if k = true then tc σ H3 fun u H4 => r' y u H4 fun z' H5 => ∃ k', z' = .bl k' ∧ (if k' = true then td σ H5 fun v H6 => r2 u v H6 Q else Q (.bl false) H5) else Q (.bl false) H3)
section
variable {X : Cx} {a b c d : Expr} {pos : Pos} {ta tb tc td : TE} {op op' op2 : CmpOp} {r r' r2 : R2}
theorem pe_chain3 (ho : OpR X (compareOp op) r) (ho' : OpR X (compareOp op') r') (ho2 : OpR X (compareOp op2) r2) (ha : PE X a ta) (hb : PE X b tb) (hc : PE X c tc) (hd : PE X d td)
    (hm : lastMarks [op, op', op2] [b, c, d] = false := by with_unfolding_all rfl) : PE X (.Compare a [op, op', op2] [b, c, d] pos) (tCh3 r r' r2 ta tb tc td) := by
  refine ⟨fun pins s σ H Q I h => ?_⟩
  refine Compare_chain (thn (ha.run pins s σ H _ I h) fun v s1 ⟨x, H1, I1, r1, q1⟩ => chain_link (thn (hb.run pins s1 σ H1 _ I1 q1) fun u s2 ⟨y, H2, I2, r2', q2⟩ =>
    thn (ho pins s2 σ H2 x y v u _ I2 r1 r2' q2) fun e s3 ⟨z, H3, I3, r3, k, ez, q3⟩ => ?_)) hm
  subst ez
  cases r3
  refine wpAny_truthy_bool ?_
  cases k with
  | false => exact ite_ff ⟨.bl false, H3, I3, rfl, q3⟩
  | true =>
    refine ite_tt (chain_link (thn (hc.run pins s3 σ H3 _ I3 q3) fun u2 s4 ⟨z4, H4, I4, r4, q4⟩ => thn (ho' pins s4 σ H4 y z4 u u2 _ I4 r2' r4 q4) fun e5 s5 ⟨z5, H5, I5, r5, k5, ez5, q5⟩ => ?_))
    subst ez5
    cases r5
    refine wpAny_truthy_bool ?_
    cases k5 with
    | false => exact ite_ff ⟨.bl false, H5, I5, rfl, q5⟩
    | true => exact ite_tt (chain_last (thn (hd.run pins s5 σ H5 _ I5 q5) fun u6 s6 ⟨z6, H6, I6, r6, q6⟩ => ho2 pins s6 σ H6 z4 z6 u2 u6 Q I6 r4 r6 q6))
theorem pt_chain3 (ho : OpR X (compareOp op) r) (ho' : OpR X (compareOp op') r') (ho2 : OpR X (compareOp op2) r2) (ha : PE X a ta) (hb : PE X b tb) (hc : PE X c tc) (hd : PE X d td)
    (hm : lastMarks [op, op', op2] [b, c, d] = false := by with_unfolding_all rfl) : PT X (.Compare a [op, op', op2] [b, c, d] pos) (tTest (tCh3 r r' r2 ta tb tc td)) := by
  refine ⟨fun pins s σ H Q I h => ?_⟩
  refine isTrue_chain (thn (ha.run pins s σ H _ I h) fun v s1 ⟨x, H1, I1, r1, q1⟩ => test_link (thn (hb.run pins s1 σ H1 _ I1 q1) fun u s2 ⟨y, H2, I2, r2', q2⟩ =>
    thn (ho pins s2 σ H2 x y v u _ I2 r1 r2' q2) fun e s3 ⟨z, H3, I3, r3, k, ez, q3⟩ => ?_)) hm
  subst ez
  cases r3
  refine wpAny_truthy_bool ?_
  cases k with
  | false =>
    obtain ⟨k', e', q'⟩ := q3
    cases e'
    exact ite_ff ⟨H3, I3, q'⟩
  | true =>
    refine ite_tt (test_link (thn (hc.run pins s3 σ H3 _ I3 q3) fun u2 s4 ⟨z4, H4, I4, r4, q4⟩ => thn (ho' pins s4 σ H4 y z4 u u2 _ I4 r2' r4 q4) fun e5 s5 ⟨z5, H5, I5, r5, k5, ez5, q5⟩ => ?_))
    subst ez5
    cases r5
    refine wpAny_truthy_bool ?_
    cases k5 with
    | false =>
      obtain ⟨k', e', q'⟩ := q5
      cases e'
      exact ite_ff ⟨H5, I5, q'⟩
    | true =>
      refine ite_tt (test_last (thn (hd.run pins s5 σ H5 _ I5 q5) fun u6 s6 ⟨z6, H6, I6, r6, q6⟩ => thn (ho2 pins s6 σ H6 z4 z6 u2 u6 _ I6 r4 r6 q6) fun e7 s7 ⟨z7, H7, I7, r7, k7, ez7, q7⟩ => ?_))
      subst ez7
      cases r7
      exact wpAny_truthy_bool ⟨H7, I7, q7⟩
end
end L2
namespace L2
open PySem PySem.Spec PyProof.Rows
def numV : V → Bool | .int _ => true | _ => false
section
variable {K : PySem.W.Frag} {σ : St} {H : Hp} {p : Addr} {xs : List V} {te : TE} {tt : TT} {j : Nat} {vs : List Nat} {Q : VK} {v : V} {d : PyData}
theorem num_dp (h : Dp K H v d) : (isIntD d && !isBoolD d) = numV v := by cases h <;> rfl
theorem non_dp (h : Dp K H v d) : decide (v = .non) = isNoneD d := by cases h <;> simp [isNoneD]
/-- [f(x) for x in xs if b(x)] over a list or a tuple wherever it stands, what is tested and made only adding to the heap -/
theorem lc_sqG {Qd : Addr → Hp → Prop} {f : V → V} {b : V → Bool} (hx : SqL K H p xs ∨ SqT K H p xs) (hz : xs.length < sizeLine) (hw : ∀ x, wipe ((wipe σ vs).set j (some x)) vs = wipe σ vs)
    (ht : ∀ x ∈ xs, ∀ H', Ext H H' → ∀ Q : Bool → Hp → Prop, (∀ H'', Ext H' H'' → Q (b x) H'') → tt ((wipe σ vs).set j (some x)) H' Q)
    (he : ∀ x ∈ xs, b x = true → ∀ H', Ext H H' → ∀ Q : VK, (∀ H'', Ext H' H'' → Q (f x) H'') → te ((wipe σ vs).set j (some x)) H' Q)
    (q : ∀ D H', H D = none → Ext H H' → H' D = some (.lst ((xs.filter b).map f)) → Qd D H') :
    ((∃ xs, SqL K H p xs) ∧ (fun J H1 => ∀ D, H1 D = none → ∃ W : Nat → Nat → Hp → Prop, (∃ m, W 0 m (upd H1 D (.lst []))) ∧ ∀ i m H, W i m H →
      (J.stop i H ∧ Qd D H) ∨ (J.go i H ∧ ∃ Nx : Hp → Prop, (∀ H', Nx H' → ∃ m', m' < m ∧ W (i + 1) m' H') ∧ ∀ x H', J.yld i H x H' → gName j x (wipe σ vs) H' fun σ2 H2 => wipe σ2 vs = wipe σ vs ∧ tt σ2 H2 fun b H3 =>
        if b = true then te σ2 H3 fun y H4 => ∃ acc, H4 D = some (.lst acc) ∧ acc.length < sizeLine ∧ Nx (upd H4 D (.lst (acc ++ [y]))) else Nx H3)) (Itl K p) H) ∨
    ((∃ xs, SqT K H p xs) ∧ (fun J H1 => ∀ D, H1 D = none → ∃ W : Nat → Nat → Hp → Prop, (∃ m, W 0 m (upd H1 D (.lst []))) ∧ ∀ i m H, W i m H →
      (J.stop i H ∧ Qd D H) ∨ (J.go i H ∧ ∃ Nx : Hp → Prop, (∀ H', Nx H' → ∃ m', m' < m ∧ W (i + 1) m' H') ∧ ∀ x H', J.yld i H x H' → gName j x (wipe σ vs) H' fun σ2 H2 => wipe σ2 vs = wipe σ vs ∧ tt σ2 H2 fun b H3 =>
        if b = true then te σ2 H3 fun y H4 => ∃ acc, H4 D = some (.lst acc) ∧ acc.length < sizeLine ∧ Nx (upd H4 D (.lst (acc ++ [y]))) else Nx H3)) (Itt K p) H) := by
  have turn : ∀ (D : Addr), H D = none → ∀ i x H', xs[i]? = some x → (Ext H H' ∧ H' D = some (.lst (((xs.take i).filter b).map f))) → gName j x (wipe σ vs) H' fun σ2 H2 => wipe σ2 vs = wipe σ vs ∧ tt σ2 H2 fun b' H3 =>
      if b' = true then te σ2 H3 fun y H4 => ∃ acc, H4 D = some (.lst acc) ∧ acc.length < sizeLine ∧ (Ext H (upd H4 D (.lst (acc ++ [y]))) ∧ upd H4 D (.lst (acc ++ [y])) D = some (.lst (((xs.take (i + 1)).filter b).map f))) else (Ext H H3 ∧ H3 D = some (.lst (((xs.take (i + 1)).filter b).map f))) := by
    intro D hD i x H' hi pv
    obtain ⟨e, hl⟩ := pv
    have hm : x ∈ xs := List.mem_of_getElem? hi
    refine ⟨hw x, ht x hm H' e _ fun H3 e3 => ?_⟩
    have hl3 : H3 D = some (.lst (((xs.take i).filter b).map f)) := e3 _ _ hl
    cases hb : b x with
    | true =>
      refine iteT (he x hm hb H3 (e.trans e3) _ fun H4 e4 => ⟨_, e4 _ _ hl3, ?_, ext_mut ((e.trans e3).trans e4) hD, ?_⟩)
      · rw [List.length_map]
        refine Nat.lt_of_le_of_lt (Nat.le_trans (List.length_filter_le _ _) ?_) hz
        exact List.length_take_le' _ _
      · rw [upd_same, take_snoc hi, List.filter_append, List.map_append]
        simp [hb]
    | false =>
      refine iteF ⟨e.trans e3, ?_⟩
      rw [hl3, take_snoc hi, List.filter_append, List.map_append]
      simp [hb]
  have fin : ∀ D, H D = none → ∀ H', (Ext H H' ∧ H' D = some (.lst (((xs.take xs.length).filter b).map f))) → Qd D H' := fun D hD H' pv => by
    rw [List.take_length] at pv
    exact q D H' hD pv.1 pv.2
  rcases hx with hx | hx
  · refine .inl ⟨⟨xs, hx⟩, fun D hD => lc_list (xs := xs) (fun i H' => Ext H H' ∧ H' D = some (.lst (((xs.take i).filter b).map f))) ⟨Ext.upd hD, upd_same⟩ (fun i H' _ pv => hx.ext pv.1) (fun i x H' hi pv => turn D hD i x H' hi pv) (fun H' pv => fin D hD H' pv)⟩
  · refine .inr ⟨⟨xs, hx⟩, fun D hD => lc_tup (xs := xs) (fun i H' => Ext H H' ∧ H' D = some (.lst (((xs.take i).filter b).map f))) ⟨Ext.upd hD, upd_same⟩ (fun i H' _ pv => hx.ext pv.1) (fun i x H' hi pv => turn D hD i x H' hi pv) (fun H' pv => fin D hD H' pv)⟩
end
end L2

set_option Elab.async false
set_option maxRecDepth 100000
set_option maxHeartbeats 4000000
namespace L2
open PySem PySem.Spec PyProof.Rows
section
variable {X : Cx} {m : Str} {k : Nat} {ps : List Str} {sp : Sp} {e o : Expr} {es : List Expr} {t : TA} {ta : TE} {pos apos : Pos} {C : Addr} {W : WX}
/-- o.m(e, ..) that may raise; W is wished for what it raises -/
theorem pe_ownMS {pl : Sem Bool} (O : OwnM X.prog X.w X.K X.mg X.base (L2.CX X.prog X.w) C m k ps sp) (he : PE X o ta) (c : Cls X.K C) (hr : Room k X.A) (tk : Takes X W) (ha : PA X (e :: es) t)
    (hst : starEach (e :: es) X.env = (false, eval e X.env) :: starEach es X.env := by rfl) (hpl : (backTo pos (starEach es X.env)).any (·.1) = false := by rfl)
    (ht : eval (.Call (.Attribute o m apos) (e :: es) [] pos) X.env = (do
      let ov ← eval o X.env
      standAt apos.atName
      let (f, first) ← holding [ov] (getMethod ov m pl)
      callWith pos f first (backTo pos (starEach (e :: es) X.env)) (backToKw pos (keywordEach [] X.env))) := by rfl) :
    PE X (.Call (.Attribute o m apos) (e :: es) [] pos) (tMethSD C m sp [] (WE W) ta t) := by
  obtain ⟨f, fd, F, M, _, hb⟩ := O.ex
  exact pe_methSD he c M F hr hb .nil (fun σ => passAt tk σ) ha hst hpl ht
theorem PE.imp {ex : Expr} {t1 t2 : TE} (h : PE X ex t1) (i : ∀ σ H Q, t2 σ H Q → t1 σ H Q) : PE X ex t2 := ⟨fun pins s σ H Q I z => h.run pins s σ H Q I (i σ H Q z)⟩
end
end L2

set_option Elab.async false
set_option linter.all false
set_option maxRecDepth 100000
set_option maxHeartbeats 4000000
/-! tuples of own objects, compared by their own ==, whichever the answer -/
namespace GQ
open PySem PySem.SeqAt
open AutoSeq1 (wpAny_loadPart')
open MeetsSeq MeetsSeq2 MeetsSeq3 SeqRoads2
section
variable {prog : Program} {w : World} {A : Around} {R : Result → Shared → Prop}
/-- the places one by one: I goes on, J at the first two that differ -/
theorem tup_eqB (la lb : Addr) (xs ys : Array Value) (n n2 : Nat) (dd dd2 : Option Addr) (sl sl2 : Array (Option Value)) (hsz : xs.size = ys.size) (I : Nat → Shared → Prop) (J : Shared → Prop)
    (turn : ∀ i (h1 : i < xs.size) (h2 : i < ys.size) s, I i s → wpAny (model prog w) A.in1 (eqBool xs[i] ys[i]) (fun r s' => (r = true ∧ I (i + 1) s') ∨ (r = false ∧ J s')) (fun e s' => R (.error e) s') s)
    (finT : ∀ s, I xs.size s → R (.ok (.ret (.bool true))) s) (finF : ∀ s, J s → R (.ok (.ret (.bool false))) s) {s : Shared}
    (hla : s.heap.get? la = some { cls := .type "tuple", dict := dd, data := .seq xs n, slots := sl }) (hlb : s.heap.get? lb = some { cls := .type "tuple", dict := dd2, data := .seq ys n2, slots := sl2 }) (h : I 0 s) :
    wpAny (model prog w) A.in1 (Builtin.«tuple.__eq__» ⟨[.ref la, .ref lb], []⟩) (FinOf prog w A R) (fun e s' => R (.error e) s') s := by
  have f2 := AutoSeq1.sub_tuple_tuple
  have hZ : (xs.toList.zip ys.toList).length = xs.size := by simp [hsz]
  have h0 := h
  obtain ⟨hp, g, d, tk, os⟩ := s
  wp_walk using wpAny_loadPart' hla, wpAny_loadPart' hlb, wpAny_forIn_list _ (fun rest b s' => b.1 = none ∧ ∃ i, rest = (xs.toList.zip ys.toList).drop i ∧ i ≤ xs.size ∧ I i s') _
  case turn =>
    rintro ⟨y, x⟩ rest b s' ⟨hb', i, hz, hi, hI⟩
    have hlt : i < (xs.toList.zip ys.toList).length := by
      rcases Nat.lt_or_ge i (xs.toList.zip ys.toList).length with h' | h'
      · exact h'
      · rw [List.drop_of_length_le h'] at hz
        cases hz
    have h1 : i < xs.size := hZ ▸ hlt
    have h2 : i < ys.size := hsz ▸ h1
    rw [List.drop_eq_getElem_cons hlt] at hz
    injection hz with hyx hrest
    have hy : y = xs[i] := by
      have q := congrArg Prod.fst hyx
      simpa using q
    have hx : x = ys[i] := by
      have q := congrArg Prod.snd hyx
      simpa using q
    subst hy hx
    refine wpAny_bind (wpAny_mono (turn i h1 h2 s' hI) (fun r s2 q2 => ?_) fun _ _ x => x)
    rcases q2 with ⟨hr, q2⟩ | ⟨hr, q2⟩
    · subst hr
      wp_walk
      exact ⟨rfl, i + 1, hrest, h1, q2⟩
    · subst hr
      have hR : R (.ok (.ret (.bool false))) s2 := finF s2 q2
      wp_walk
      exact hR
  case fin =>
    rintro ⟨b1, b2⟩ s' ⟨hb', i, hz, hi, hI⟩
    simp only at hb'
    subst hb'
    have hge : xs.size ≤ i := by
      rcases Nat.lt_or_ge i (xs.toList.zip ys.toList).length with h' | h'
      · rw [List.drop_eq_getElem_cons h'] at hz
        cases hz
      · exact hZ ▸ h'
    have hi' : i = xs.size := by omega
    have hR : R (.ok (.ret (.bool true))) s' := finT s' (hi' ▸ hI)
    wp_walk
    simpa [Builtin.Tuple.tupleCompareSizes, hsz] using hR
  case h =>
    exact ⟨rfl, 0, rfl, Nat.zero_le _, h0⟩
/-- the same for != -/
theorem tup_neB (la lb : Addr) (xs ys : Array Value) (n n2 : Nat) (dd dd2 : Option Addr) (sl sl2 : Array (Option Value)) (hsz : xs.size = ys.size) (I : Nat → Shared → Prop) (J : Shared → Prop)
    (turn : ∀ i (h1 : i < xs.size) (h2 : i < ys.size) s, I i s → wpAny (model prog w) A.in1 (eqBool xs[i] ys[i]) (fun r s' => (r = true ∧ I (i + 1) s') ∨ (r = false ∧ J s')) (fun e s' => R (.error e) s') s)
    (finT : ∀ s, I xs.size s → R (.ok (.ret (.bool false))) s) (finF : ∀ s, J s → R (.ok (.ret (.bool true))) s) {s : Shared}
    (hla : s.heap.get? la = some { cls := .type "tuple", dict := dd, data := .seq xs n, slots := sl }) (hlb : s.heap.get? lb = some { cls := .type "tuple", dict := dd2, data := .seq ys n2, slots := sl2 }) (h : I 0 s) :
    wpAny (model prog w) A.in1 (Builtin.«tuple.__ne__» ⟨[.ref la, .ref lb], []⟩) (FinOf prog w A R) (fun e s' => R (.error e) s') s := by
  have f2 := AutoSeq1.sub_tuple_tuple
  have hZ : (xs.toList.zip ys.toList).length = xs.size := by simp [hsz]
  have h0 := h
  obtain ⟨hp, g, d, tk, os⟩ := s
  wp_walk using wpAny_loadPart' hla, wpAny_loadPart' hlb, wpAny_forIn_list _ (fun rest b s' => b.1 = none ∧ ∃ i, rest = (xs.toList.zip ys.toList).drop i ∧ i ≤ xs.size ∧ I i s') _
  case turn =>
    rintro ⟨y, x⟩ rest b s' ⟨hb', i, hz, hi, hI⟩
    have hlt : i < (xs.toList.zip ys.toList).length := by
      rcases Nat.lt_or_ge i (xs.toList.zip ys.toList).length with h' | h'
      · exact h'
      · rw [List.drop_of_length_le h'] at hz
        cases hz
    have h1 : i < xs.size := hZ ▸ hlt
    have h2 : i < ys.size := hsz ▸ h1
    rw [List.drop_eq_getElem_cons hlt] at hz
    injection hz with hyx hrest
    have hy : y = xs[i] := by
      have q := congrArg Prod.fst hyx
      simpa using q
    have hx : x = ys[i] := by
      have q := congrArg Prod.snd hyx
      simpa using q
    subst hy hx
    refine wpAny_bind (wpAny_mono (turn i h1 h2 s' hI) (fun r s2 q2 => ?_) fun _ _ x => x)
    rcases q2 with ⟨hr, q2⟩ | ⟨hr, q2⟩
    · subst hr
      wp_walk
      exact ⟨rfl, i + 1, hrest, h1, q2⟩
    · subst hr
      have hR : R (.ok (.ret (.bool true))) s2 := finF s2 q2
      wp_walk
      exact hR
  case fin =>
    rintro ⟨b1, b2⟩ s' ⟨hb', i, hz, hi, hI⟩
    simp only at hb'
    subst hb'
    have hge : xs.size ≤ i := by
      rcases Nat.lt_or_ge i (xs.toList.zip ys.toList).length with h' | h'
      · rw [List.drop_eq_getElem_cons h'] at hz
        cases hz
      · exact hZ ▸ h'
    have hi' : i = xs.size := by omega
    have hR : R (.ok (.ret (.bool false))) s' := finT s' (hi' ▸ hI)
    wp_walk
    simpa [Builtin.Tuple.tupleCompareSizes, bne, hsz] using hR
  case h =>
    exact ⟨rfl, 0, rfl, Nat.zero_le _, h0⟩
end
end GQ
namespace GQ
open PySem PySem.SeqAt
section
variable {prog : Program} {w : World} {A : Around} {E : Value → Shared → Prop} {s : Shared}
theorem rc_tupB {la lb : Addr} {xs ys : Array Value} {Q : Value → Shared → Prop} (hsz : xs.size = ys.size) (hu : A.units < cLine) (I : Nat → Shared → Prop) (J : Shared → Prop) (hla : s.heap.IsTuple la xs) (hlb : s.heap.IsTuple lb ys)
    (turn : ∀ i (h1 : i < xs.size) (h2 : i < ys.size) s, I i s → wpAny (model prog w) A.in1 (eqBool xs[i] ys[i]) (fun r s' => (r = true ∧ I (i + 1) s') ∨ (r = false ∧ J s')) E s)
    (finT : ∀ s, I xs.size s → Q (.bool true) s) (finF : ∀ s, J s → Q (.bool false) s) (h : I 0 s) : wpAny (model prog w) A (richCompare .Eq (.ref la) (.ref lb)) Q E s := by
  obtain ⟨⟨cls, dd, data, sl⟩, ho, hc, n, hd⟩ := id hla
  obtain ⟨⟨cls2, dd2, data2, sl2⟩, ho2, hc2, n2, hd2⟩ := id hlb
  simp only at hc hd hc2 hd2
  subst hc hd hc2 hd2
  refine wpAny_richCompare_same_room (op := .Eq) ⟨_, ho, rfl⟩ ⟨_, ho2, rfl⟩ F.slot_tuple_eq (call_here F.slot_tuple_eq ⟨_, ho, rfl⟩ F.entry_tuple_eq (F.args_tuple_eq_2 _ _) ?_) hu
  exact tup_eqB (R := wants (fun v s' => v ≠ .notImplemented ∧ Q v s') E) la lb xs ys n n2 dd dd2 sl sl2 hsz I J turn (fun s' q => ⟨(fun x => nomatch x), finT s' q⟩) (fun s' q => ⟨(fun x => nomatch x), finF s' q⟩) ho ho2 h
theorem rc_tupNB {la lb : Addr} {xs ys : Array Value} {Q : Value → Shared → Prop} (hsz : xs.size = ys.size) (hu : A.units < cLine) (I : Nat → Shared → Prop) (J : Shared → Prop) (hla : s.heap.IsTuple la xs) (hlb : s.heap.IsTuple lb ys)
    (turn : ∀ i (h1 : i < xs.size) (h2 : i < ys.size) s, I i s → wpAny (model prog w) A.in1 (eqBool xs[i] ys[i]) (fun r s' => (r = true ∧ I (i + 1) s') ∨ (r = false ∧ J s')) E s)
    (finT : ∀ s, I xs.size s → Q (.bool false) s) (finF : ∀ s, J s → Q (.bool true) s) (h : I 0 s) : wpAny (model prog w) A (richCompare .NotEq (.ref la) (.ref lb)) Q E s := by
  obtain ⟨⟨cls, dd, data, sl⟩, ho, hc, n, hd⟩ := id hla
  obtain ⟨⟨cls2, dd2, data2, sl2⟩, ho2, hc2, n2, hd2⟩ := id hlb
  simp only at hc hd hc2 hd2
  subst hc hd hc2 hd2
  refine wpAny_richCompare_same_room (op := .NotEq) ⟨_, ho, rfl⟩ ⟨_, ho2, rfl⟩ F.slot_tuple_ne (call_here F.slot_tuple_ne ⟨_, ho, rfl⟩ F.entry_tuple_ne (F.args_tuple_ne_2 _ _) ?_) hu
  exact tup_neB (R := wants (fun v s' => v ≠ .notImplemented ∧ Q v s') E) la lb xs ys n n2 dd dd2 sl sl2 hsz I J turn (fun s' q => ⟨(fun x => nomatch x), finT s' q⟩) (fun s' q => ⟨(fun x => nomatch x), finF s' q⟩) ho ho2 h
end
end GQ
namespace L2
open PySem PySem.Spec PyProof.Rows
/-- how two values compare, by the abstract heap -/
abbrev EqvB := V → V → Hp → Bool → Prop
def MonB (D : EqvB) : Prop := ∀ x y H H' k, Ext H H' → D x y H k → D x y H' k
def EqB (X : Cx) (n : Nat) (D : EqvB) : Prop :=
  ∀ (A : Around) (pins : List (Addr × Obj)) (s : Shared) (σ : St) (H : Hp) (x y : V) (u v : Value) (k : Bool), Sub X n A → Inv X pins σ H s → RelV x u → RelV y v → D x y H k →
    wpAny (model X.prog X.w) A (eqBool u v) (fun r s' => r = k ∧ ∃ H', Inv X pins σ H' s' ∧ Ext H H') X.xe s
def RcB (X : Cx) (n : Nat) (D : EqvB) : Prop :=
  ∀ (A : Around) (pins : List (Addr × Obj)) (s : Shared) (σ : St) (H : Hp) (x y : V) (u v : Value) (k : Bool), Sub X n A → Inv X pins σ H s → RelV x u → RelV y v → D x y H k →
    wpAny (model X.prog X.w) A (richCompare .Eq u v) (fun r s' => r = .bool k ∧ ∃ H', Inv X pins σ H' s' ∧ Ext H H') X.xe s
section
variable {X : Cx} {n : Nat} {D : EqvB}
/-- instances of the class at C -/
def DInsB (C : Addr) (R : Addr → Addr → Hp → Bool → Prop) : EqvB := fun x y H k => ∃ a b dx dy fs gs, x = .ref a ∧ y = .ref b ∧ H a = some (.ins C dx fs) ∧ H b = some (.ins C dy gs) ∧ R a b H k
def spEqB (R : Addr → Addr → Hp → Bool → Prop) : Sp := fun vs H Q _ => ∃ a b k, vs = [.ref a, .ref b] ∧ R a b H k ∧ ∀ H', Ext H H' → Q (.bl k) H'
theorem rcB_ins {CX : CXT} {C f : Addr} {fd : FuncData} {ps : List Str} {R : Addr → Addr → Hp → Bool → Prop} {E : XK} (F : FnOk X.prog X.w X.K X.mg X.base CX n f fd ps (spEqB R))
    (hs : PySem.W.findIn X.K (.ref C) "__eq__" = some (some (.ref f))) (hf : PySem.W.isFn X.K (.ref f) = true) (hb : Binds X.K fd ps []) (hx : Passes CX X E) : RcB X n (DInsB C R) := by
  intro A pins s σ H x y u v k sb I rx ry d
  obtain ⟨a, b, dx, dy, fs, gs, rfl, rfl, ha, hb', hr⟩ := d
  cases rx
  cases ry
  obtain ⟨mA, J, _⟩ := ins_get I.hok ha
  obtain ⟨mB, J', _⟩ := ins_get I.hok hb'
  obtain ⟨od, J, _⟩ := J.look
  obtain ⟨od', J', _⟩ := J'.look
  obtain ⟨m, hF⟩ := I.fr
  refine PySem.W.cmp_K (op := .Eq) (tb := .ref C) sb.room.units0 hF I.ok.mod.kin J J'.type (by simp [PySem.W.notFirst]) hs hf ?_
  have hsp : spEqB R [.ref a, .ref b] H (fun v H' => v = .bl k ∧ Ext H H') E := ⟨a, b, k, rfl, hr, fun H' e => ⟨rfl, e⟩⟩
  have e1 := I.env0
  have e0 : Env0 X.prog X.w X.K X.mg X.base A X.stack s H := ⟨by rw [sb.fr]; exact e1.frames, e1.mod, e1.bs, e1.bsz, e1.funs, e1.frf, e1.hok, e1.bare⟩
  have hl := F.len _ _ _ _ hsp
  have bd := hb s [.ref a, .ref b] I.kIn (by simpa using hl)
  have bd' : BindsTo s fd ⟨[.ref a, .ref b], []⟩ (ps.zip [.ref a, .ref b]) := by simpa using bd
  refine wpAny_call (codeAny_mono (F.run A X.stack s H ⟨[.ref a, .ref b], []⟩ [.ref a, .ref b] [.ref a, .ref b] _ E sb.room e0 bd' (.cons rfl (.cons rfl .nil)) hsp) fun r s' hq => ?_)
  match r, hq with
  | .error e, hq => exact hx pins σ H s e s' I hq
  | .ok (.ret z), hq =>
    obtain ⟨zv, H', I', rz, ez, ex⟩ := I.after hq
    subst ez
    cases rz
    exact ⟨rfl, H', I', ex⟩
  | .ok .next, hq => exact hq.elim
  | .ok .brk, hq => exact hq.elim
  | .ok .cont, hq => exact hq.elim
/-- within a tuple: the same object is equal to itself -/
theorem RcB.eqB (h : RcB X n D) (hr : ∀ x y H k, D x y H k → ∃ a b, x = .ref a ∧ y = .ref b ∧ (a = b → k = true)) : EqB X n D := by
  intro A pins s σ H x y u v k sb I rx ry d
  obtain ⟨a, b, rfl, rfl, hk⟩ := hr _ _ _ _ d
  cases rx
  cases ry
  by_cases hab : a = b
  · have hk' := hk hab
    subst hab hk'
    exact SeqAt.EqAt.same (A := A) (s := s) (.ref a) X.prog X.w X.xe _ ⟨rfl, H, I, Ext.rfl'⟩
  · refine GQ.eqBool_refG hab (wpAny_mono (h A pins s σ H (.ref a) (.ref b) _ _ k sb I rfl rfl d) (fun r s' q => ?_) fun _ _ x => x)
    obtain ⟨hr', q⟩ := q
    exact ⟨k, hr', rfl, q⟩
/-- tuples of one length, place by place; ks the answers -/
def DTupB (K : PySem.W.Frag) (D : EqvB) : EqvB := fun x y H k => ∃ (a b : Addr) (xs ys : List V) (ks : List Bool), x = .ref a ∧ y = .ref b ∧ SqT K H a xs ∧ SqT K H b ys ∧ xs.length = ys.length ∧ ks.length = xs.length ∧
  (∀ (i : Nat) x y c, xs[i]? = some x → ys[i]? = some y → ks[i]? = some c → D x y H c) ∧ k = ks.all id
theorem all_take {ks : List Bool} {i : Nat} (h : ∀ j, j < i → ks[j]? = some true) (hi : ks.length ≤ i) : ks.all id = true := by
  rw [List.all_eq_true]
  intro c hc
  obtain ⟨j, hj⟩ := List.mem_iff_getElem?.mp hc
  have hjl := (List.getElem?_eq_some_iff.mp hj).1
  have q := h j (Nat.lt_of_lt_of_le hjl hi)
  rw [hj] at q
  cases q
  rfl
theorem rcB_tup (hD : MonB D) (h : EqB X n D) : RcB X (n + 1) (DTupB X.K D) := by
  intro A pins s σ H x y u v k sb I rx ry d
  obtain ⟨a, b, xs, ys, ks, rfl, rfl, ha, hb, hlen, hks, hp, rfl⟩ := d
  cases rx
  cases ry
  obtain ⟨its, r, e, z⟩ := I.tuple ha
  obtain ⟨its2, r2, e2, z2⟩ := I.tuple hb
  have l1 := r.length
  have l2 := r2.length
  have hsz : its.toArray.size = its2.toArray.size := by rw [List.size_toArray, List.size_toArray, ← l1, ← l2]; exact hlen
  refine GQ.rc_tupB hsz sb.room.units0 (fun i s' => (∃ H', Inv X pins σ H' s' ∧ Ext H H') ∧ ∀ j, j < i → ks[j]? = some true) (fun s' => (∃ H', Inv X pins σ H' s' ∧ Ext H H') ∧ ks.all id = false) e e2 (fun i h1 h2 s' q => ?_) (fun s' q => ?_) (fun s' q => ?_) ⟨⟨H, I, Ext.rfl'⟩, fun j hj => absurd hj (Nat.not_lt_zero _)⟩
  · obtain ⟨⟨H1, I1, e1⟩, hk⟩ := q
    have h1' : i < its.length := by simpa using h1
    have h2' : i < its2.length := by simpa using h2
    have g1 : its[i]? = some its.toArray[i] := by rw [List.getElem?_eq_getElem h1'] <;> simp
    have g2 : its2[i]? = some its2.toArray[i] := by rw [List.getElem?_eq_getElem h2'] <;> simp
    have k1 : i < xs.length := by omega
    have k2 : i < ys.length := by omega
    have k3 : i < ks.length := by omega
    obtain ⟨uu, hu, ru⟩ := r.get (List.getElem?_eq_getElem k1)
    obtain ⟨vv, hv, rv⟩ := r2.get (List.getElem?_eq_getElem k2)
    rw [g1] at hu
    rw [g2] at hv
    rw [Option.some.inj hu, Option.some.inj hv]
    refine wpAny_mono (h A.in1 pins s' σ H1 _ _ uu vv ks[i] sb.in1 I1 ru rv (hD _ _ _ _ _ e1 (hp i _ _ _ (List.getElem?_eq_getElem k1) (List.getElem?_eq_getElem k2) (List.getElem?_eq_getElem k3)))) (fun rr s2 q2 => ?_) fun _ _ x => x
    obtain ⟨hr, H2, I2, e2'⟩ := q2
    have hki : ks[i]? = some rr := by rw [hr]; exact List.getElem?_eq_getElem k3
    cases rr with
    | true =>
      refine .inl ⟨rfl, ⟨H2, I2, e1.trans e2'⟩, fun j hj => ?_⟩
      rcases Nat.lt_succ_iff_lt_or_eq.mp hj with hj | rfl
      · exact hk j hj
      · exact hki
    | false =>
      refine .inr ⟨rfl, ⟨H2, I2, e1.trans e2'⟩, ?_⟩
      rw [List.all_eq_false]
      exact ⟨false, List.mem_of_getElem? hki, by decide⟩
  · obtain ⟨q1, hk⟩ := q
    exact ⟨by rw [all_take hk (by simp; omega)], q1⟩
  · obtain ⟨q1, hk⟩ := q
    exact ⟨by rw [hk], q1⟩
/-- the same for !=, told by what == would say -/
def RcNB (X : Cx) (n : Nat) (D : EqvB) : Prop :=
  ∀ (A : Around) (pins : List (Addr × Obj)) (s : Shared) (σ : St) (H : Hp) (x y : V) (u v : Value) (k : Bool), Sub X n A → Inv X pins σ H s → RelV x u → RelV y v → D x y H k →
    wpAny (model X.prog X.w) A (richCompare .NotEq u v) (fun r s' => r = .bool (!k) ∧ ∃ H', Inv X pins σ H' s' ∧ Ext H H') X.xe s
theorem rcNB_tup (hD : MonB D) (h : EqB X n D) : RcNB X (n + 1) (DTupB X.K D) := by
  intro A pins s σ H x y u v k sb I rx ry d
  obtain ⟨a, b, xs, ys, ks, rfl, rfl, ha, hb, hlen, hks, hp, rfl⟩ := d
  cases rx
  cases ry
  obtain ⟨its, r, e, z⟩ := I.tuple ha
  obtain ⟨its2, r2, e2, z2⟩ := I.tuple hb
  have l1 := r.length
  have l2 := r2.length
  have hsz : its.toArray.size = its2.toArray.size := by rw [List.size_toArray, List.size_toArray, ← l1, ← l2]; exact hlen
  refine GQ.rc_tupNB hsz sb.room.units0 (fun i s' => (∃ H', Inv X pins σ H' s' ∧ Ext H H') ∧ ∀ j, j < i → ks[j]? = some true) (fun s' => (∃ H', Inv X pins σ H' s' ∧ Ext H H') ∧ ks.all id = false) e e2 (fun i h1 h2 s' q => ?_) (fun s' q => ?_) (fun s' q => ?_) ⟨⟨H, I, Ext.rfl'⟩, fun j hj => absurd hj (Nat.not_lt_zero _)⟩
  · obtain ⟨⟨H1, I1, e1⟩, hk⟩ := q
    have h1' : i < its.length := by simpa using h1
    have h2' : i < its2.length := by simpa using h2
    have g1 : its[i]? = some its.toArray[i] := by rw [List.getElem?_eq_getElem h1'] <;> simp
    have g2 : its2[i]? = some its2.toArray[i] := by rw [List.getElem?_eq_getElem h2'] <;> simp
    have k1 : i < xs.length := by omega
    have k2 : i < ys.length := by omega
    have k3 : i < ks.length := by omega
    obtain ⟨uu, hu, ru⟩ := r.get (List.getElem?_eq_getElem k1)
    obtain ⟨vv, hv, rv⟩ := r2.get (List.getElem?_eq_getElem k2)
    rw [g1] at hu
    rw [g2] at hv
    rw [Option.some.inj hu, Option.some.inj hv]
    refine wpAny_mono (h A.in1 pins s' σ H1 _ _ uu vv ks[i] sb.in1 I1 ru rv (hD _ _ _ _ _ e1 (hp i _ _ _ (List.getElem?_eq_getElem k1) (List.getElem?_eq_getElem k2) (List.getElem?_eq_getElem k3)))) (fun rr s2 q2 => ?_) fun _ _ x => x
    obtain ⟨hr, H2, I2, e2'⟩ := q2
    have hki : ks[i]? = some rr := by rw [hr]; exact List.getElem?_eq_getElem k3
    cases rr with
    | true =>
      refine .inl ⟨rfl, ⟨H2, I2, e1.trans e2'⟩, fun j hj => ?_⟩
      rcases Nat.lt_succ_iff_lt_or_eq.mp hj with hj | rfl
      · exact hk j hj
      · exact hki
    | false =>
      refine .inr ⟨rfl, ⟨H2, I2, e1.trans e2'⟩, ?_⟩
      rw [List.all_eq_false]
      exact ⟨false, List.mem_of_getElem? hki, by decide⟩
  · obtain ⟨q1, hk⟩ := q
    exact ⟨by rw [all_take hk (by simp; omega)]; rfl, q1⟩
  · obtain ⟨q1, hk⟩ := q
    exact ⟨by rw [hk]; rfl, q1⟩
/-- x == y, x != y as expressions -/
def rEqB (D : EqvB) : R2 := fun x y H Q => ∃ k, D x y H k ∧ ∀ H', Ext H H' → Q (.bl k) H'
def rNeB (D : EqvB) : R2 := fun x y H Q => ∃ k, D x y H k ∧ ∀ H', Ext H H' → Q (.bl (!k)) H'
theorem op_eqB (h : RcB X n D) (hr : Room n X.A) : OpR X (compareOp .Eq) (rEqB D) := by
  intro pins s σ H x y v u Q I rx ry hq
  obtain ⟨k, d, q⟩ := hq
  show wpAny (model X.prog X.w) X.A (richCompare .Eq v u) (EP X pins σ Q) X.xe s
  refine wpAny_mono (h X.A pins s σ H x y v u k ⟨hr, rfl⟩ I rx ry d) (fun r s' z => ?_) fun _ _ x => x
  obtain ⟨hr', H', I', e⟩ := z
  subst hr'
  exact ⟨.bl k, H', I', rfl, q H' e⟩
theorem op_neB (h : RcNB X n D) (hr : Room n X.A) : OpR X (compareOp .NotEq) (rNeB D) := by
  intro pins s σ H x y v u Q I rx ry hq
  obtain ⟨k, d, q⟩ := hq
  show wpAny (model X.prog X.w) X.A (richCompare .NotEq v u) (EP X pins σ Q) X.xe s
  refine wpAny_mono (h X.A pins s σ H x y v u k ⟨hr, rfl⟩ I rx ry d) (fun r s' z => ?_) fun _ _ x => x
  obtain ⟨hr', H', I', e⟩ := z
  subst hr'
  exact ⟨.bl (!k), H', I', rfl, q H' e⟩
end
end L2

set_option Elab.async false
set_option linter.all false
set_option maxRecDepth 100000
set_option maxHeartbeats 4000000
/-! except A as e: .. except B as e: ..; classes made with keyword-only parameters -/
namespace L2
open PySem PySem.Spec PyProof.Rows
abbrev SuT := Addr → Value → Option Addr → TS
/-- behind a suite the i-th slot is empty -/
def dropAt (i : Nat) (D : Ends) : Ends := { nx := fun g J => D.nx (g.set i none) J, rt := D.rt, bk := fun g J => D.bk (g.set i none) J, ct := fun g J => D.ct (g.set i none) J }
def wManyA (K : PySem.W.Frag) (Wo : WX) (D : Ends) : List (Value × Nat × SuT) → WX
  | [] => Wo
  | (c, i, ts) :: r => fun cl d g J => ∃ y, PySem.W.exmOne K cl c = some y ∧ (y = true → ∀ q, J q = none → ts q cl d (dropAt i D) (g.set i (some (.ref q))) J) ∧ (y = false → wManyA K Wo D r cl d g J)
inductive HdsA (X : Cx) : List ExceptHandler → List (Value × Nat × SuT) → Prop
  | nil : HdsA X [] []
  | cons {x n : Str} {c : Value} {i : Nat} {ts : SuT} {b0 : Stmt} {su : List Stmt} {np pp : Pos} {hds : List ExceptHandler} {l : List (Value × Nat × SuT)} (hi : X.N[i]? = some n) (hl : X.env.kindOf n = some .local) (hc : Names X x c)
      (hsu : ∀ (q : Addr) (oq : Obj) (cl : Value) (d : Option Addr) (pn : List (Addr × Obj)), Zc cl d oq → (∃ us, oq.data = .fields us) → PSs (X.suite q ((q, oq) :: pn)) (b0 :: su) (ts q cl d)) (r : HdsA X hds l) :
      HdsA X (.ExceptHandler (some (.Name x np)) (some n) (b0 :: su) pp :: hds) ((c, i, ts) :: l)
section
variable {X : Cx} {bd : List Stmt} {hd0 : ExceptHandler} {hds : List ExceptHandler} {l : List (Value × Nat × SuT)} {pos : Pos} {tb : WX → TS} {Wo : WX}
theorem ps_try_manyA (hs : X.stack = X.env :: X.outer) (hf : X.env.frame = some X.env.locals) (hN : X.N.Nodup) (tk : Takes X Wo)
    (hb : ∀ (W : WX) (pn : List (Addr × Obj)) (xe : Value → Shared → Prop), Takes (X.tr pn xe) W → PassesOwn (model X.prog X.w) X.A X.env xe → PSs (X.tr pn xe) bd (tb W))
    (hh : HdsA X (hd0 :: hds) l) : PS X (.Try bd (hd0 :: hds) [] [] pos) (fun D g J => tb (wManyA X.K Wo D l) D g J) := by
  refine ⟨fun pins s0 g0 J0 D I0 h => ?_⟩
  have kk := I0.ok
  have hfr : X.A.frames = some (X.env :: X.outer) := by rw [kk.frames, hs]
  refine wpAny_Try_except (wpAny_mono ((hb (wManyA X.K Wo D l) (X.pn ++ pins) (fun u t1 => wpAny (model X.prog X.w) X.A (noteFrame u X.env) (fun _ t2 => wpAny (model X.prog X.w) X.A (setFlight u none) (fun _ t3 =>
    wpAny (model X.prog X.w) X.A (handleBy u X.env (hd0 :: hds)) (SP X pins D) X.xe t3) X.xe t2) X.xe t1) (fun u t1 xx => ?_) PassesOwn.looking).run [] s0 g0 J0 D (I0.toTry _) h) (fun fl t1 hsp => ?_) (fun _ _ z => z))
  · obtain ⟨q, B, sI, pns, g1, J1, cl, d, rfl, K1, nb, up, sky, na, os, ag, wx⟩ := xx
    have V : Inv X pins g1 J1 sI := K1.ofTry kk
    have sky2 : Sky B (X.env :: X.outer) q (Zc cl d) X.env.locals t1.heap := by rw [← hs]; exact sky
    show wpAny (model X.prog X.w) X.A (noteFrame (.ref q) X.env) _ _ _
    refine Sky.land Zc.steady hfr hf sky2 fun h3 f3 u3 => ?_
    have V3 : Inv X pins g1 J1 { t1 with heap := h3 } := V.landed nb f3.1 (up.trans u3) os ag
    obtain ⟨o3, v3, e3, z3, d3⟩ := f3.there
    have apart : ∀ {hh : Heap} {o : Obj} {us : Array Value}, hh.FunFrames B (X.env :: X.outer) → hh.get? q = some o → o.data = .fields us → q ∉ frs (X.env :: X.outer) := fun {hh o us} ff e dd hm => by
      obtain ⟨_, o', e', hnf⟩ := ff.mem hm
      rw [e] at e'
      cases e'
      exact hnf _ dd
    have np := apart f3.2.2.1 e3 d3
    have nL : q ≠ X.env.locals := fun z => np (List.mem_filterMap.mpr ⟨X.env, List.mem_cons_self, by rw [hf, z]⟩)
    have nF : q ∉ X.fs := fun hm => by
      obtain ⟨e, he, r⟩ := List.mem_filterMap.mp hm
      exact np (List.mem_filterMap.mpr ⟨e, List.mem_cons_of_mem _ he, r⟩)
    have S3 := V3.suite e3 d3 na nL nF
    have go : ∀ {hz : List ExceptHandler} {lz : List (Value × Nat × SuT)}, HdsA X hz lz → wManyA X.K Wo D lz cl d g1 J1 → wpAny (model X.prog X.w) X.A (handleBy (.ref q) X.env hz) (SP X pins D) X.xe { t1 with heap := h3 } := by
      intro hz lz hk
      induction hk with
      | nil =>
        intro wz
        refine wpAny_handleBy_nil ?_
        obtain ⟨_, _, _, oq, us, TB, oT, ts2, he, hq, hdd, h1, hr⟩ := id f3
        unfold PySem.passOn
        refine wpAny_bind (wpAny_field he hdd h1 ?_)
        rw [if_neg (show ¬ ((Value.ref TB == Value.none) = true) by simp)]
        have fin : wpAny (model X.prog X.w) X.A (setFlight (.ref q) X.env.frame) (fun _ t4 => wpAny (model X.prog X.w) X.A (throw (.ref q) : Sem Flow) (SP X pins D) X.xe t4) X.xe { t1 with heap := h3 } := by
          rw [hf]
          refine HandSPX.setFlight_upZ f3 fun h4 hh4 up4 => wpAny_throw (tk _ _ ?_)
          exact ⟨q, B, sI, pins, g1, J1, cl, d, rfl, V, nb, (up.trans u3).trans up4, .inr (.inr (by rw [hs]; exact hh4)), na, os, ag, wz⟩
        first | exact wpAny_bind (wpAny_pure (wpAny_bind fin)) | exact wpAny_bind fin
      | @cons x n c i ts b0 su np pp hds2 l2 hi hl hc hsu r ih =>
        intro wz
        obtain ⟨y, hy, yes, no⟩ := wz
        refine wpAny_handleBy_cons (codeAny_handlers_test ?_) (by intro z; cases z)
        have LT : PySem.W.Looks (model X.prog X.w) h3 (typeOf (.ref q)) cl := fun A Q E s k r => wpAny_typeOf_ref (k _ _ e3) (by rw [z3.1]; exact r)
        have LM := PySem.W.exm_one (M := model X.prog X.w) (V3.kIn) LT hy
        have tst : ∀ {Q E : Value → Shared → Prop}, Q c { t1 with heap := h3 } → wpAny (model X.prog X.w) (X.A.mark (some (.ref q))) (eval (.Name x np) X.env) Q E { t1 with heap := h3 } := fun {Q E} z => by
          obtain ⟨hg, hdbg, hm | ⟨hm, hv, hnn⟩⟩ := hc
          · exact ld_glob (X := X.suite q ((q, o3) :: (X.pn ++ pins))) S3 hg hm z hdbg
          · exact ld_blt (X := X.suite q ((q, o3) :: (X.pn ++ pins))) S3 hg hm hv z hnn hdbg
        refine tst (LM.here ?_)
        cases y with
        | true =>
          refine codeAny_handlers_suite_as (HandSPX.lands_againZ f3 fun h4 f4 u4 => ?_)
          have V4 : Inv X pins g1 J1 { t1 with heap := h4 } := V.landed nb f4.1 ((up.trans u3).trans u4) os ag
          obtain ⟨o4, v4, e4, z4, d4⟩ := f4.there
          have S4 := V4.suite e4 d4 na nL nF
          have hloc : Loc X.env.scope n := .inl hl
          refine store_ok (X := X.suite q ((q, o4) :: (X.pn ++ pins))) (v := .ref q) S4 hN hi hloc rfl (fun t5 S5 => ?_) (.inr hl)
          refine wpAny_mono ((hsu q o4 cl d (X.pn ++ pins) z4 ⟨_, d4⟩).run [] t5 _ J1 _ S5 (yes rfl q na)) (fun fl t6 sp => ?_) (fun _ _ z => False.elim z)
          have ends : ∀ {g6 : St} {J6 : Hp} {Q : Shared → Prop}, Inv (X.suite q ((q, o4) :: (X.pn ++ pins))) [] g6 J6 t6 → (∀ t7, Inv X pins (g6.set i none) J6 t7 → Q t7) →
              wpAny (model X.prog X.w) X.A (do bindName X.env n .none; unbindBehindTheSuite X.env n pp) (fun _ t7 => Q t7) X.xe t6 := fun {g6 J6 Q} S6 hq => gone_ok (S6.unsuite kk) hN hi hl hq
          cases fl with
          | next =>
            obtain ⟨g6, J6, S6, r6⟩ := sp
            exact ends S6 fun t7 V7 => ⟨_, _, V7, r6⟩
          | brk =>
            obtain ⟨g6, J6, S6, r6⟩ := sp
            exact ends S6 fun t7 V7 => ⟨_, _, V7, r6⟩
          | cont =>
            obtain ⟨g6, J6, S6, r6⟩ := sp
            exact ends S6 fun t7 V7 => ⟨_, _, V7, r6⟩
          | ret u =>
            obtain ⟨w6, g6, J6, S6, r6, y6⟩ := sp
            exact ends S6 fun t7 V7 => ⟨_, _, _, V7, r6, y6⟩
        | false =>
          show wpAny _ X.A (handleBy (.ref q) X.env hds2) _ _ _
          exact ih (no rfl)
    exact go hh wx
  · cases fl with
    | next =>
      obtain ⟨g6, J6, V6, r⟩ := hsp
      exact wpAny_execs_nil ⟨g6, J6, V6.ofTry kk, r⟩
    | brk =>
      obtain ⟨g6, J6, V6, r⟩ := hsp
      exact ⟨g6, J6, V6.ofTry kk, r⟩
    | cont =>
      obtain ⟨g6, J6, V6, r⟩ := hsp
      exact ⟨g6, J6, V6.ofTry kk, r⟩
    | ret u =>
      obtain ⟨v6, g6, J6, V6, rv, r⟩ := hsp
      exact ⟨v6, g6, J6, V6.ofTry kk, rv, r⟩
end
/-! ### C(e, .., k = v, ..), keyword-only parameters without defaults, all written in their order -/
section
variable {K : PySem.W.Frag} {x qual : Str} {st : Stmt} {f : Addr} {fd : FuncData} {ps ks : List Str} {n : Nat}
abbrev KBa (K : PySem.W.Frag) (fd : FuncData) (ps : List Str) (n : Nat) (ks : List Str) : Prop := KBn K fd ps n ks (fun us ws => us ++ ws) (fun vs zs => vs ++ zs)
theorem Fun.kba (F : Fun K x qual st f fd)
    (h : ∀ (kV doc pm : Value) (an : Option Addr) (cdv ct : Value) (us ws : List Value), us.length = n → ws.length = ks.length → bindArgs (PySem.W.fnOf x qual (defArgs st) (defBody st) (defScope st) .none kV doc pm an cdv ct) ⟨us, ks.zip ws⟩ = pure (ps.zip (us ++ ws))) : KBa K fd ps n ks := by
  obtain ⟨_, _, kV, doc, pm, an, cdv, ct, _, rfl, _, _⟩ := F.ex
  exact ⟨fun s us ws _ l1 l2 => .of_eq (h kV doc pm an cdv ct us ws l1 l2), fun r1 r2 => r1.append r2⟩
end
structure OwnCK (P : Program) (w : World) (K : PySem.W.Frag) (mg : Str → Option Value) (base : Heap) (CX : CXT) (x : Str) (C : Addr) (k : Nat) (ps : List Str) (n : Nat) (ks : List Str) (sp : Sp) : Prop where
  ex : ∃ (f : Addr) (fd : FuncData), FnOk P w K mg base CX k f fd ps sp ∧ Mk K C f ∧ mg x = some (.ref C) ∧ KBa K fd ps (n + 1) ks
section
variable {X : Cx} {CX : CXT} {k n : Nat} {f C : Addr} {fd : FuncData} {ps ks : List Str} {sp : Sp} {E : St → XK} {x : Str} {p pos : Pos} {e : Expr} {es : List Expr} {kws : List Keyword} {t tk : TA} {W : WX}
/-- the errors wished at the slots -/
def tMakeKS (C : Addr) (n m : Nat) (sp : Sp) (E : St → XK) (t tk : TA) : TE := fun g J Q => t g J fun vs J1 => tk g J1 fun zs J2 => vs.length = n ∧ zs.length = m ∧ ∀ o dx, J2 o = none → J2 dx = none → dx ≠ o →
  sp (.ref o :: vs ++ zs) (upd (upd J2 dx (.own o)) o (.ins C dx [])) (fun v J3 => v = .non ∧ Q (.ref o) J3) (fun cl d J3 => E g cl d J3)
theorem run_makeKS {pins : List (Addr × Obj)} {g : St} {J : Hp} {s : Shared} {Q : VK} {us ws : List Value} {vs zs : List V} (M : Mk X.K C f) (F : FnOk X.prog X.w X.K X.mg X.base CX k f fd ps sp) (hr : Room (k + 1) X.A) (hb : KBa X.K fd ps (n + 1) ks) (hx : PassesAt CX X g (E g))
    (I : Inv X pins g J s) (r : Vals vs us) (rz : Vals zs ws) (l1 : vs.length = n) (l2 : zs.length = ks.length)
    (h : ∀ o dx, J o = none → J dx = none → dx ≠ o → sp (.ref o :: vs ++ zs) (upd (upd J dx (.own o)) o (.ins C dx [])) (fun v J2 => v = .non ∧ Q (.ref o) J2) (E g)) :
    wpAny (model X.prog X.w) X.A (call (.ref C) us (ks.zip ws)) (EP X pins g Q) X.xe s := by
  have want := h (s.heap.objs.size + 1) s.heap.objs.size (I.hok.fresh (Nat.le_succ _)) (I.hok.fresh (Nat.le_refl _)) (Nat.ne_of_lt (Nat.lt_succ_self _))
  have I2 := Inv.made (C := C) I
  have m1 : Vals (V.ref (s.heap.objs.size + 1) :: vs) (Value.ref (s.heap.objs.size + 1) :: us) := .cons rfl r
  have m2 := hb.rel m1 rz
  have k1 : (Value.ref (s.heap.objs.size + 1) :: us).length = n + 1 := by rw [List.length_cons, ← r.length, l1]
  refine wpAny_call (make_map (f := f) I.kIn M.makes M.init (beq_iff_eq.mp M.fn) (codeAny_mono (F.run _ X.stack _ _ ⟨Value.ref (s.heap.objs.size + 1) :: us, ks.zip ws⟩ (Value.ref (s.heap.objs.size + 1) :: us ++ ws) _ _ (E g) (hr.make C us (ks.zip ws))
    (I2.env0.make C us (ks.zip ws)) (hb.to _ (Value.ref (s.heap.objs.size + 1) :: us) ws I2.kIn k1 (rz.length.symm.trans l2)) m2 want) fun z t1 hz => ?_))
  cases z with
  | error u => exact hx pins _ _ u t1 I2 hz
  | ok fl =>
    cases fl with
    | ret u =>
      obtain ⟨v, J3, I3, rv, ev, q3⟩ := I2.after hz
      subst ev
      exact ⟨rv, ⟨V.ref (s.heap.objs.size + 1), J3, I3, rfl, q3⟩⟩
    | next => exact False.elim hz
    | brk => exact False.elim hz
    | cont => exact False.elim hz
theorem pe_newKS (O : OwnCK X.prog X.w X.K X.mg X.base (L2.CX X.prog X.w) x C k ps n ks sp) (hr : Room (k + 1) X.A) (tw : Takes X W) (ha : PA X (e :: es) t) (hkw : PK X kws tk) (hg : Gl X x := by rfl)
    (hall : (backToKw pos (keywordEach kws X.env)).all (·.1.isSome) = true := by rfl) (hks : (backToKw pos (keywordEach kws X.env)).filterMap (·.1) = ks := by rfl) (hdb : (x == ("__debug__" : Str)) = false := by decide)
    (he : starEach (e :: es) X.env = (false, eval e X.env) :: starEach es X.env := by rfl) (hpl : ((backTo pos (starEach (e :: es) X.env)).any (·.1) || (backToKw pos (keywordEach kws X.env)).any (·.1.isNone)) = false := by rfl) :
    PE X (.Call (.Name x p) (e :: es) kws pos) (tMakeKS C n ks.length sp (WE W) t tk) := by
  obtain ⟨f, fd, F, M, hm, hb⟩ := O.ex
  refine ⟨fun pins s g J Q I h => wpAny_Call_Name_kw (ld_glob I hg hm ?_ hdb)⟩
  refine PySem.W.callWith_KW (h₀ := X.base) I.ok.mod.kin M.kp hall (thn (ha.run pos pins s g J _ I h) fun us s1 ⟨vs, J1, I1, r, q⟩ => ?_) hpl he
  refine thn (hkw.run pos pins s1 g J1 _ I1 q) fun ws s2 ⟨zs, J2, I2, rz, l1, l2, q2⟩ => ⟨I2.kIn, ?_⟩
  rw [hks]
  exact run_makeKS M F hr hb (passAt tw g) I2 r rz l1 l2 q2
end
section
variable {X : Cx} {e : Expr} {f : Str} {pos : Pos} {ta : TE}
/-- e.f where the context is not known yet -/
theorem pe_fldA (he : PE X e ta) (hb : attributeBase e f X.env (eval e X.env) = eval e X.env := by rfl) : PE X (.Attribute e f pos) (tFld X.K ta f) := pe_fld he hb
end
end L2

set_option Elab.async false
set_option maxRecDepth 100000
set_option maxHeartbeats 4000000
/-! slices and sums of tuples, whichever object it is -/
namespace L2
open PySem PySem.Spec PyProof.Rows
section
variable {X : Cx}
theorem cut_whole {xs : List V} {lo hi : Option Int} (h : HT.sIx xs.length 0 lo = 0 ∧ HT.sIx xs.length xs.length hi = xs.length) : cutV xs lo hi = xs := by
  unfold cutV
  rw [h.1, h.2]
  simp
/-- a slice of a tuple, whichever object it is -/
def rSlE : V → Option Int → Option Int → Hp → VK → Prop := fun x lo hi H Q => ∃ a xs, x = .ref a ∧ H a = some (.tup xs) ∧ ∀ p H', Ext H H' → H' p = some (.tup (cutV xs lo hi)) → Q (.ref p) H'
theorem sl_tupE : SlR X rSlE := by
  intro pins s σ H x v vl vu lo hi sl Q I rx hs pl pu h
  obtain ⟨a, xs, rfl, ha, q⟩ := h
  exact sl_tupA pins s σ H _ v vl vu lo hi sl Q I rx hs pl pu ⟨a, xs, rfl, SqT.of ha, fun hw => q a H Ext.rfl' (by rw [cut_whole hw]; exact ha), fun _ p hp => q p _ (Ext.upd hp) upd_same⟩
/-- the sum of two tuples, whichever object it is -/
def rCatE : R2 := fun x y H Q => ∃ a b xs ys, x = .ref a ∧ y = .ref b ∧ H a = some (.tup xs) ∧ H b = some (.tup ys) ∧ xs.length + ys.length ≤ sizeLine ∧ ∀ p H', Ext H H' → H' p = some (.tup (xs ++ ys)) → Q (.ref p) H'
theorem op_catE : OpR X (binaryOp .Add) rCatE := by
  intro pins s σ H x y v u Q I rx ry h
  obtain ⟨a, b, xs, ys, rfl, rfl, ha, hb, hz, q⟩ := h
  refine op_catA pins s σ H _ _ v u Q I rx ry ⟨a, b, xs, ys, rfl, rfl, SqT.of ha, SqT.of hb, hz, fun e => q b H Ext.rfl' ?_, fun _ e => q a H Ext.rfl' ?_, fun _ _ p hp => q p _ (Ext.upd hp) upd_same⟩
  · subst e
    exact hb
  · subst e
    rw [List.append_nil]
    exact ha
end
end L2

set_option Elab.async false
set_option linter.all false
set_option maxRecDepth 100000
set_option maxHeartbeats 4000000
/-! one of two readings; tuple.index of flat items; an own __contains__ -/
namespace PySem.W
open PySem PySem.Calls PyProof.Rows
section
variable {prog : Program} {w : World} {A : Around} {E : Value → Shared → Prop} {s : Shared} {K : Frag} {x C f : Addr} {ox : Obj} {od : Option Obj}
theorem contains_fn {v : Value} {Q : Bool → Shared → Prop} (X : K.In s.heap) (I : InstAt s.heap x ox C od) (hs : findIn K (.ref C) "__contains__" = some (some (.ref f))) (hf : isFn K (.ref f) = true)
    (h : wpAny (model prog w) A (call (.ref f) [.ref x, v]) (fun r s' => ∃ b, r = .bool b ∧ Q b s') E s) : wpAny (model prog w) A (contains (.ref x) v) Q E s := by
  unfold contains
  refine wpAny_holding ?_
  have e1 : stdlibNamesSay? (.ref x) v = none := rfl
  rw [e1]
  refine wpAny_bind (wpAny_bind (I.type.here ((looks_findIn X hs).here ?_)))
  show wpAny _ _ (if (some (Value.ref f) == some Value.none) = true then _ else _) _ _ _
  rw [if_neg (by simp)]
  refine wpAny_bind (m := callSpecialUnlessNone? (.ref x) _ _ _) ?_
  unfold callSpecialUnlessNone?
  refine wpAny_bind (wpAny_bind (I.type.here ((looks_findIn X hs).here ?_)))
  refine wpAny_holding (wpAny_bind ((bind_fn X _ (beq_iff_eq.mp hf)).here ?_))
  show wpAny _ _ (if (Value.ref f == Value.none) = true then _ else _) _ _ _
  rw [if_neg (by simp)]
  refine wpAny_bind (wpAny_mono h (fun r s' z => ?_) fun _ _ z => z)
  obtain ⟨b, rfl, q⟩ := z
  exact wpAny_pure (wpAny_truthy_bool q)
end
end PySem.W
namespace L2
open PySem PySem.Spec PyProof.Rows
section
variable {X : Cx}
theorem pe_either {ex : Expr} {t1 t2 : TE} (h1 : PE X ex t1) (h2 : PE X ex t2) : PE X ex (fun g J Q => t1 g J Q ∨ t2 g J Q) := ⟨fun pins s g J Q I h => h.elim (fun z => h1.run pins s g J Q I z) (fun z => h2.run pins s g J Q I z)⟩
def rIndexT (K : PySem.W.Frag) : V → List V → Hp → VK → Prop := fun o vs J Q => ∃ (p : Addr) (ts : List V) (e : V) (n : Nat) (c : V), o = V.ref p ∧ vs = [e] ∧ SqT K J p ts ∧ flatV e = true ∧ ts.all flatV = true ∧ ts[n]? = some c ∧ eqV c e = true ∧
  (∀ (m : Nat) (c' : V), m < n → ts[m]? = some c' → eqV c' e = false) ∧ Q (.int (n : Nat)) J
theorem mt_tupIndex : MtR X "tuple.index" (rIndexT X.K) := by
  intro pins s g J o vs v us Q I ro rvs h
  obtain ⟨p, ts, e, n, c, rfl, rfl, ht, fe, fts, hc, hce, no, q⟩ := h
  cases ro
  cases rvs with
  | cons re rt =>
    rename_i ue ut
    cases rt
    obtain ⟨its, rv, ⟨⟨cls, dd, dt, sl⟩, ho, hcl, nn, hd⟩, hz⟩ := I.tuple ht
    simp only at hcl hd
    subst hcl hd
    obtain ⟨u, hu, ru⟩ := rv.get hc
    obtain ⟨nl, ne⟩ := List.getElem?_eq_some_iff.mp hu
    have hvl := rv.length
    have hn : n < its.toArray.size := by simpa using nl
    refine call_meets PySem.F.slot_tuple_index ⟨_, ho, rfl⟩ PySem.F.entry_tuple_index (PySem.F.args_tuple_index_2 _ _) (TI.tuple_indexAt p its.toArray nn dd sl ue (eqU e) n hn ?_ ?_)
      ⟨ho, fun w hw => mem_eqAt re fe rv fts w (by simpa using hw), ?_⟩
    · have e1 : its.toArray[n] = u := by simpa using ne
      rw [e1, eqU_of ru (flat_at fts hc)]
      exact hce
    · intro m hm hmn
      have ml : m < its.length := by simpa using hm
      have mt : m < ts.length := by omega
      have gm : ts[m]? = some ts[m] := List.getElem?_eq_getElem mt
      obtain ⟨u2, hu2, ru2⟩ := rv.get gm
      obtain ⟨_, me⟩ := List.getElem?_eq_some_iff.mp hu2
      have e2 : its.toArray[m] = u2 := by simpa using me
      rw [e2, eqU_of ru2 (flat_at fts gm)]
      exact no m _ hmn gm
    · exact ⟨.int (n : Nat), J, I.tok _, ⟨_, rfl⟩, q⟩
end
section
variable {X : Cx} {CX : CXT} {k : Nat} {f C : Addr} {fd : FuncData} {ps : List Str} {sp : Sp}
/-- x in o, o an instance of the class at C with an own __contains__ -/
def rInO (C : Addr) (sp : Sp) : R2 := fun x y H Q => ∃ a dx fs, y = .ref a ∧ H a = some (.ins C dx fs) ∧ sp [y, x] H (fun v H' => ∃ b, v = .bl b ∧ Q (.bl b) H') E0
theorem op_inO (F : FnOk X.prog X.w X.K X.mg X.base CX k f fd ps sp) (hs : PySem.W.findIn X.K (.ref C) "__contains__" = some (some (.ref f))) (hf : PySem.W.isFn X.K (.ref f) = true) (hr : Room k X.A) (hb : Binds X.K fd ps []) (hx : Passes CX X E0) : OpR X (compareOp .In) (rInO C sp) := by
  intro pins s g J x y v u Q I rx ry hq
  obtain ⟨a, dx, fs, rfl, ha, q⟩ := hq
  cases (show u = Value.ref a from ry)
  obtain ⟨mA, O, _⟩ := ins_get I.hok ha
  obtain ⟨od, O, _⟩ := O.look
  show wpAny (model X.prog X.w) X.A (contains (.ref a) v >>= fun b => pure (.bool b)) (EP X pins g Q) X.xe s
  refine wpAny_bind (PySem.W.contains_fn I.kIn O hs hf (wpAny_mono (run_at (vs := [.ref a, x]) F hr rfl hb hx I (.cons rfl (.cons rx .nil)) q) (fun r s' z => ?_) fun _ _ e => e))
  obtain ⟨w', J', I', rv, b, rfl, q'⟩ := z
  cases rv
  exact ⟨b, rfl, wpAny_pure ⟨.bl b, J', I', rfl, q'⟩⟩
theorem inO {m : Nat} (O : OwnM X.prog X.w X.K X.mg X.base CX C "__contains__" m ps sp) (hr : Room m X.A) (hx : Passes CX X E0) : OpR X (compareOp .In) (rInO C sp) := by
  obtain ⟨f, fd, F, M, hi, hb⟩ := O.ex
  exact op_inO F M.at_ hi hr hb hx
end
end L2

set_option Elab.async false
set_option maxRecDepth 100000
set_option maxHeartbeats 4000000
/-! ranges with a step made lists and tuples; zip of two tuples in a comprehension; a def that is held by a name -/
namespace L2
open PySem PySem.Spec PyProof.Rows
theorem pss_dead {X : Cx} {ss : List Stmt} : PSs X ss (fun _ _ _ => False) := ⟨fun _ _ _ _ _ _ h => h.elim⟩
/-- the def at f keeps its promise -/
structure OwnAt (P : Program) (w : World) (K : PySem.W.Frag) (mg : Str → Option Value) (base : Heap) (CX : CXT) (f : Addr) (k : Nat) (ps : List Str) (sp : Sp) : Prop where
  ex : ∃ fd, FnOk P w K mg base CX k f fd ps sp ∧ PySem.W.keepIn K (.ref f) = true ∧ Binds K fd ps []
theorem Own.at_ {P : Program} {w : World} {K : PySem.W.Frag} {mg : Str → Option Value} {base : Heap} {CX : CXT} {x : Str} {k : Nat} {ps : List Str} {sp : Sp} (O : Own P w K mg base CX x k ps sp) : ∃ f, mg x = some (.ref f) ∧ OwnAt P w K mg base CX f k ps sp := by
  obtain ⟨f, fd, F, hm, hk, hb⟩ := O.ex
  exact ⟨f, hm, fd, F, hk, hb⟩
section
variable {X : Cx} {CX : CXT} {x : Str} {k i : Nat} {f : Addr} {ps : List Str} {sp : Sp} {e : Expr} {es : List Expr} {t : TA} {p pos : Pos}
/-- the i-th slot holds f, which is called; W is wished for what it raises -/
def tCallVS (i : Nat) (f : Addr) (sp : Sp) (E : St → XK) (t : TA) : TE := fun σ H Q => σ[i]? = some (some (.ref f)) ∧ t σ H fun vs H1 => sp vs H1 Q (E σ)
theorem pe_ownVS {W : WX} (O : OwnAt X.prog X.w X.K X.mg X.base (L2.CX X.prog X.w) f k ps sp) (hr : Room k X.A) (tk : Takes X W) (hN : X.N[i]? = some x) (hv : Vis X.env.scope x) (ha : PA X (e :: es) t)
    (hdb : (x == ("__debug__" : Str)) = false := by decide) (hcd : (x == ("__classdict__" : Str)) = false := by decide)
    (he : starEach (e :: es) X.env = (false, eval e X.env) :: starEach es X.env := by rfl) (hpl : (backTo pos (starEach es X.env)).any (·.1) = false := by rfl) : PE X (.Call (.Name x p) (e :: es) [] pos) (tCallVS i f sp (WE W) t) := by
  obtain ⟨fd, F, hk, hb⟩ := O.ex
  refine ⟨fun pins s σ H Q I h => ?_⟩
  obtain ⟨hσ, h⟩ := h
  refine PyProof.Rows.Call_ (thn ((pe_var (pos := p) hN hv hdb hcd).run pins s σ H (fun y H1 => y = .ref f ∧ H1 = H) I ⟨_, hσ, rfl, rfl⟩) fun u s1 ⟨y, H1, I1, rx, ex, eh⟩ => ?_) rfl
  subst ex eh
  obtain rfl : u = Value.ref f := rx
  refine PySem.W.callWith_K (h₀ := X.base) I1.ok.mod.kin hk (thn (ha.run pos pins s1 σ H1 _ I1 h) fun us s2 ⟨vs, H2, I2, r, q⟩ => ⟨I2.kIn, ?_⟩) he hpl
  exact run_fnSD (us := us) (vs := vs) F hr hb .nil (passAt tk σ) I2 r (by rw [List.append_nil]; exact q)
end
/-! zip of two tuples -/
section
variable {K : PySem.W.Frag} {a b : Addr} {xs ys : List V}
theorem walk_zipT {n : Nat} (hn : n = min xs.length ys.length) : Walk (RZ.ItzT K a b) n (fun H => SqT K H a xs ∧ SqT K H b ys) (YPair (fun i => xs[i]?) (fun i => ys[i]?)) := by
  refine ⟨fun i _ hi q => ⟨xs, ys, xs[i]'(by omega), ys[i]'(by omega), q.1, q.2, List.getElem?_eq_getElem (by omega), List.getElem?_eq_getElem (by omega)⟩, fun _ q => ⟨xs, ys, q.1, q.2, by omega⟩, fun i H v H' _ q y => ?_⟩
  obtain ⟨T, x, y, e1, e2, e3, h1, h2⟩ := y
  exact ⟨T, x, y, e1, e2, e3, h1 xs q.1, h2 ys q.2⟩
end
/-! ranges with a step -/
section
variable {X : Cx}
def PRg3 (X : Cx) (e : Expr) (t : St → Hp → (Int → Int → Int → Hp → Prop) → Prop) : Prop :=
  ∀ (pins : List (Addr × Obj)) (s : Shared) (σ : St) (H : Hp) (Q : Int → Int → Int → Hp → Prop), Inv X pins σ H s → t σ H Q →
    wpAny (model X.prog X.w) X.A (eval e X.env) (fun x s' => ∃ r a b c t u v H', x = Value.ref r ∧ IsRange s'.heap r a b c t u v ∧ Inv X pins σ H' s' ∧ Q a b c H') X.xe s
def tRg3 (t : TA) (σ : St) (H : Hp) (Q : Int → Int → Int → Hp → Prop) : Prop := t σ H fun vs H1 => ∃ a b c, vs = [.int a, .int b, .int c] ∧ c ≠ 0 ∧ (-(2 ^ 62) ≤ a ∧ a < 2 ^ 62 ∧ -(2 ^ 62) ≤ b ∧ b < 2 ^ 62 ∧ c.natAbs < 1073741824) ∧ Q a b c H1
end
end L2

set_option Elab.async false
set_option maxRecDepth 100000
set_option maxHeartbeats 4000000
/-! comprehensions over ranges and over zip of two tuples, told by the place; what is tested and made only adds to the heap -/
namespace L2
open PySem PySem.Spec PyProof.Rows
/-- a comprehension's turns -/
abbrev LcGo (J : It) (g : TG) (tt : TT) (te : TE) (vs : List Nat) (σ : St) (H1 : Hp) (D : Addr) (Qd : Hp → Prop) : Prop :=
  ∃ W : Nat → Nat → Hp → Prop, (∃ m, W 0 m (upd H1 D (.lst []))) ∧ ∀ i m H, W i m H →
    (J.stop i H ∧ Qd H) ∨ (J.go i H ∧ ∃ Nx : Hp → Prop, (∀ H', Nx H' → ∃ m', m' < m ∧ W (i + 1) m' H') ∧ ∀ x H', J.yld i H x H' → g x (wipe σ vs) H' fun σ2 H2 => wipe σ2 vs = wipe σ vs ∧ tt σ2 H2 fun b H3 =>
      if b = true then te σ2 H3 fun y H4 => ∃ acc, H4 D = some (.lst acc) ∧ acc.length < sizeLine ∧ Nx (upd H4 D (.lst (acc ++ [y]))) else Nx H3)
theorem range_snoc (n : Nat) : List.range (n + 1) = List.range n ++ [n] := List.range_succ
section
variable {K : PySem.W.Frag} {σ : St} {H : Hp} {te : TE} {tt : TT} {vs : List Nat}
theorem lc_turn {f : Nat → V} {b : Nat → Bool} {D : Addr} {i n : Nat} {σ2 : St} {H' : Hp} (hD : H D = none) (hz : n < sizeLine) (hi : i < n) (hw : wipe σ2 vs = wipe σ vs) (e : Ext H H') (hl : H' D = some (.lst (((List.range i).filter b).map f)))
    (ht : ∀ Q : Bool → Hp → Prop, (∀ H'', Ext H' H'' → Q (b i) H'') → tt σ2 H' Q) (he : b i = true → ∀ H3, Ext H' H3 → ∀ Q : VK, (∀ H'', Ext H3 H'' → Q (f i) H'') → te σ2 H3 Q) :
    wipe σ2 vs = wipe σ vs ∧ tt σ2 H' fun b' H3 => if b' = true then te σ2 H3 fun y H4 => ∃ acc, H4 D = some (.lst acc) ∧ acc.length < sizeLine ∧ (Ext H (upd H4 D (.lst (acc ++ [y]))) ∧ upd H4 D (.lst (acc ++ [y])) D = some (.lst (((List.range (i + 1)).filter b).map f)))
      else (Ext H H3 ∧ H3 D = some (.lst (((List.range (i + 1)).filter b).map f))) := by
  refine ⟨hw, ht _ fun H3 e3 => ?_⟩
  have hl3 := e3 _ _ hl
  cases hb : b i with
  | true =>
    refine iteT (he hb H3 e3 _ fun H4 e4 => ⟨_, e4 _ _ hl3, ?_, ext_mut ((e.trans e3).trans e4) hD, ?_⟩)
    · rw [List.length_map]
      refine Nat.lt_of_le_of_lt (Nat.le_trans (List.length_filter_le _ _) ?_) hz
      rw [List.length_range]
      omega
    · rw [upd_same, range_snoc, List.filter_append, List.map_append]
      simp [hb]
  | false =>
    refine iteF ⟨e.trans e3, ?_⟩
    rw [hl3, range_snoc, List.filter_append, List.map_append]
    simp [hb]
theorem lc_rgR {Qd : Addr → Hp → Prop} {lo : Int} {n j : Nat} {f : Nat → V} {b : Nat → Bool} (hz : n < sizeLine) (hw : ∀ x, wipe ((wipe σ vs).set j (some x)) vs = wipe σ vs)
    (ht : ∀ i, i < n → ∀ H', Ext H H' → ∀ Q : Bool → Hp → Prop, (∀ H'', Ext H' H'' → Q (b i) H'') → tt ((wipe σ vs).set j (some (.int (lo + i)))) H' Q)
    (he : ∀ i, i < n → b i = true → ∀ H', Ext H H' → ∀ Q : VK, (∀ H'', Ext H' H'' → Q (f i) H'') → te ((wipe σ vs).set j (some (.int (lo + i)))) H' Q)
    (q : ∀ D H', H D = none → Ext H H' → H' D = some (.lst (((List.range n).filter b).map f)) → Qd D H') : ∀ D, H D = none → LcGo (Itr lo n) (gName j) tt te vs σ H D (Qd D) := fun D hD =>
  lc_range (fun i H' => Ext H H' ∧ H' D = some (.lst (((List.range i).filter b).map f))) ⟨Ext.upd hD, upd_same⟩ (fun i H' hi pv => lc_turn hD hz hi (hw _) pv.1 pv.2 (ht i hi H' pv.1) fun hb H3 e3 => he i hi hb H3 (pv.1.trans e3)) (fun H' pv => q D H' hD pv.1 pv.2)
theorem lc_zipR {Qd : Addr → Hp → Prop} {a b2 : Addr} {xs ys : List V} {n i1 i2 : Nat} {f : Nat → V} {b : Nat → Bool} (hx : SqT K H a xs) (hy : SqT K H b2 ys) (hn : n = min xs.length ys.length) (hz : n < sizeLine)
    (hw : ∀ x y, wipe (((wipe σ vs).set i1 (some x)).set i2 (some y)) vs = wipe σ vs)
    (ht : ∀ i x y, i < n → xs[i]? = some x → ys[i]? = some y → ∀ H', Ext H H' → ∀ Q : Bool → Hp → Prop, (∀ H'', Ext H' H'' → Q (b i) H'') → tt (((wipe σ vs).set i1 (some x)).set i2 (some y)) H' Q)
    (he : ∀ i x y, i < n → xs[i]? = some x → ys[i]? = some y → b i = true → ∀ H', Ext H H' → ∀ Q : VK, (∀ H'', Ext H' H'' → Q (f i) H'') → te (((wipe σ vs).set i1 (some x)).set i2 (some y)) H' Q)
    (q : ∀ D H', H D = none → Ext H H' → H' D = some (.lst (((List.range n).filter b).map f)) → Qd D H') : ∀ D, H D = none → LcGo (RZ.ItzT K a b2) (gTup K 2 (gCons (gName i1) (gCons (gName i2) gNil))) tt te vs σ H D (Qd D) := fun D hD => by
  refine lc_it (walk_zipT (K := K) (a := a) (b := b2) (xs := xs) (ys := ys) hn) (fun i H' => Ext H H' ∧ H' D = some (.lst (((List.range i).filter b).map f))) ⟨Ext.upd hD, upd_same⟩ (fun i H' _ pv => ⟨hx.ext pv.1, hy.ext pv.1⟩) (fun i v H' H'' hi pv y => ?_) (fun H' pv => q D H' hD pv.1 pv.2)
  obtain ⟨T, x, y, rfl, hT, rfl, h1, h2⟩ := y
  have eT := Ext.upd (o := .tup [x, y]) hT
  refine ⟨T, [x, y], rfl, SqT.of upd_same, rfl, x, [y], rfl, y, [], rfl, rfl, ?_⟩
  exact lc_turn hD hz hi (hw _ _) (pv.1.trans eT) (eT _ _ pv.2) (ht i x y hi h1 h2 _ (pv.1.trans eT)) fun hb H3 e3 => he i x y hi h1 h2 hb H3 ((pv.1.trans eT).trans e3)
end
end L2

set_option Elab.async false
set_option maxRecDepth 100000
set_option maxHeartbeats 4000000
/-! rules with the kit's own part named, for what stands within a comprehension -/
namespace L2
open PySem PySem.Spec PyProof.Rows
section
variable {X : Cx} {K : PySem.W.Frag}
theorem ix_tupK (h : X.K = K) : IxR X (rIxT K) := by
  subst h
  exact ix_tup
theorem ix_listK (h : X.K = K) : IxR X (rIxL K) := by
  subst h
  exact ix_list
theorem cr_maxK (h : X.K = K) (hc : X.calm = true) : CallR X (.builtin "max") (rMax K) := by
  subst h
  exact cr_max hc
theorem cr_minK (h : X.K = K) (hc : X.calm = true) : CallR X (.builtin "min") (rMin K) := by
  subst h
  exact cr_min hc
theorem pe_fldK {e : Expr} {ta : TE} {f : Str} {pos : Pos} (h : X.K = K) (he : PE X e ta) (hb : attributeBase e f X.env (eval e X.env) = eval e X.env := by rfl) : PE X (.Attribute e f pos) (tFld K ta f) := by
  subst h
  exact pe_fld he hb
def iListK (K : PySem.W.Frag) (tl : TE) : TI := fun σ H R => tl σ H fun x H1 => ∃ a, x = .ref a ∧ (∃ xs, SqL K H1 a xs) ∧ R (Itl K a) H1
theorem pi_listK {tg l : Expr} {tl : TE} (h : X.K = K) (hl : PE X l tl) : PI X tg l (iListK K tl) := by
  subst h
  exact pi_list hl
def rTupOfK (K : PySem.W.Frag) : List V → Hp → VK → Prop := fun xs H Q => ∃ p ys, xs = [.ref p] ∧ ((SqL K H p ys ∧ ∀ l, H l = none → Q (.ref l) (upd H l (.tup ys))) ∨ (SqT K H p ys ∧ Q (.ref p) H))
theorem call_tuple_ofK (h : X.K = K) : CallR X (.type "tuple") (rTupOfK K) := by
  subst h
  exact call_tuple_of
def rListOfK (K : PySem.W.Frag) : List V → Hp → VK → Prop := fun xs H Q => ∃ p ys, xs = [.ref p] ∧ (SqL K H p ys ∨ SqT K H p ys) ∧ ∀ l, H l = none → Q (.ref l) (upd H l (.lst ys))
theorem call_list_ofK (h : X.K = K) : CallR X (.type "list") (rListOfK K) := by
  subst h
  exact call_list_of
end
end L2

set_option Elab.async false
set_option maxRecDepth 100000
set_option maxHeartbeats 4000000
/-! list(zip(a, b)) of two lists -/
namespace PySem
theorem zip_no_len : typeLookup (Value.type "zip") (Str.ofString "__len__") = pure none := am_miss_of_fast (by decide +kernel)
theorem zip_no_hint : typeLookup (Value.type "zip") (Str.ofString "__length_hint__") = pure none := am_miss_of_fast (by decide +kernel)
/-- what has been given out -/
structure ZGiven (h : Heap) (lo : Addr) (acc : Array Value) (xs ys : Array Value) (i : Nat) (as : List Addr) : Prop where
  acc : acc.toList = as.map Value.ref
  len : as.length = i
  rise : List.Pairwise (· < ·) as
  above : ∀ a ∈ as, lo < a
  below : ∀ a ∈ as, a < h.objs.size
  pairs : ∀ (j : Nat) (a : Addr), as[j]? = some a → ∃ x y, xs[j]? = some x ∧ ys[j]? = some y ∧ IsPair h a x y
/-- how the zip stands -/
structure ZSt (h : Heap) (z TI TO i1 i2 l1 l2 : Addr) (xs ys : Array Value) (i : Nat) : Prop where
  first : i = 0 → ∃ a b, IsZip h z TI TO .none ∧ IsPair h TO a b
  later : 0 < i → ∃ T f x y, IsZipHeld h z TI TO T f ∧ IsPair h T x y
  ti : IsPair h TI (.ref i1) (.ref i2)
  it1 : h.IsListIter i1 l1 i
  it2 : h.IsListIter i2 l2 i
  li1 : h.IsList l1 xs
  li2 : h.IsList l2 ys
structure ZOff (S z TI TO i1 i2 l1 l2 : Addr) : Prop where
  z : S ≠ z
  ti : S ≠ TI
  to : S ≠ TO
  i1 : S ≠ i1
  i2 : S ≠ i2
  l1 : S ≠ l1
  l2 : S ≠ l2
section
variable {prog : Program} {w : World} {A : Around} {z TI TO i1 i2 l1 l2 S lo : Addr} {xs ys : Array Value} {i : Nat} {h h' : Heap}
theorem ZGiven.next {acc : Array Value} {as : List Addr} {T : Addr} {x y : Value} (g : ZGiven h lo acc xs ys i as) (hT : T = h.objs.size) (hlo : lo < T) (hsz : h'.objs.size = h.objs.size + 1) (hx : xs[i]? = some x) (hy : ys[i]? = some y) (hp : IsPair h' T x y)
    (hk : ∀ a ∈ as, ∀ x y, IsPair h a x y → IsPair h' a x y) : ZGiven h' lo (acc.push (.ref T)) xs ys (i + 1) (as ++ [T]) where
  acc := by rw [Array.toList_push, g.acc, List.map_append]; rfl
  len := by rw [List.length_append, g.len]; rfl
  rise := by
    rw [List.pairwise_append]
    refine ⟨g.rise, List.pairwise_singleton _ _, fun a ha b hb => ?_⟩
    rw [List.mem_singleton.mp hb, hT]
    exact g.below a ha
  above := fun a ha => by
    rcases List.mem_append.mp ha with ha | ha
    · exact g.above a ha
    · rw [List.mem_singleton.mp ha]
      exact hlo
  below := fun a ha => by
    rw [hsz]
    rcases List.mem_append.mp ha with ha | ha
    · exact Nat.lt_succ_of_lt (g.below a ha)
    · rw [List.mem_singleton.mp ha, hT]
      exact Nat.lt_succ_self _
  pairs := fun j a hj => by
    by_cases e : j < as.length
    · rw [List.getElem?_append_left e] at hj
      obtain ⟨x', y', h1, h2, h3⟩ := g.pairs j a hj
      exact ⟨x', y', h1, h2, hk a (List.mem_of_getElem? hj) _ _ h3⟩
    · have hl := (List.getElem?_eq_some_iff.mp hj).1
      rw [List.length_append] at hl
      have hl1 : [T].length = 1 := rfl
      have ej : j = as.length := by omega
      rw [List.getElem?_append_right (by omega), ej, Nat.sub_self] at hj
      cases hj
      rw [ej, g.len]
      exact ⟨x, y, hx, hy, hp⟩
theorem ZGiven.upd {acc : Array Value} {as : List Addr} {f : Obj → Obj} {oS : Obj} (g : ZGiven h lo acc xs ys i as) (hS : h.get? S = some oS) (hc : oS.cls = .type "list") : ZGiven (h.update S f) lo acc xs ys i as where
  acc := g.acc
  len := g.len
  rise := g.rise
  above := g.above
  below := fun a ha => by rw [Heap.size_update]; exact g.below a ha
  pairs := fun j a hj => by
    obtain ⟨x, y, h1, h2, h3⟩ := g.pairs j a hj
    refine ⟨x, y, h1, h2, ?_⟩
    have ne : S ≠ a := fun e => by
      subst e
      have h4 : h.get? S = some _ := h3
      rw [hS] at h4
      cases h4
      exact absurd (show Value.type "tuple" = Value.type "list" from hc) (by decide)
    show (h.update S f).get? a = _
    rw [Heap.get?_update_other h f ne]
    exact h3
theorem ZSt.upd {f : Obj → Obj} (s : ZSt h z TI TO i1 i2 l1 l2 xs ys i) (o : ZOff S z TI TO i1 i2 l1 l2) {oS : Obj} (hS : h.get? S = some oS) (hc : oS.cls = .type "list") : ZSt (h.update S f) z TI TO i1 i2 l1 l2 xs ys i where
  first := fun e => by
    obtain ⟨a, b, h1, h2⟩ := s.first e
    exact ⟨a, b, (Heap.get?_update_other h f o.z).trans h1, (Heap.get?_update_other h f o.to).trans h2⟩
  later := fun e => by
    obtain ⟨T, b, x, y, h1, h2⟩ := s.later e
    have ne : S ≠ T := fun e => by
      subst e
      have h4 : h.get? S = some _ := h2
      rw [hS] at h4
      cases h4
      exact absurd (show Value.type "tuple" = Value.type "list" from hc) (by decide)
    exact ⟨T, b, x, y, (Heap.get?_update_other h f o.z).trans h1, (Heap.get?_update_other h f ne).trans h2⟩
  ti := (Heap.get?_update_other h f o.ti).trans s.ti
  it1 := by
    obtain ⟨q, h1, h2⟩ := s.it1
    exact ⟨q, (Heap.get?_update_other h f o.i1).trans h1, h2⟩
  it2 := by
    obtain ⟨q, h1, h2⟩ := s.it2
    exact ⟨q, (Heap.get?_update_other h f o.i2).trans h1, h2⟩
  li1 := by
    obtain ⟨q, h1, h2⟩ := s.li1
    exact ⟨q, (Heap.get?_update_other h f o.l1).trans h1, h2⟩
  li2 := by
    obtain ⟨q, h1, h2⟩ := s.li2
    exact ⟨q, (Heap.get?_update_other h f o.l2).trans h1, h2⟩
theorem zip_loop (hh : A.in1.handled = none) (D : ZipApart z TI TO i1 i2 l1 l2) (o : ZOff S z TI TO i1 i2 l1 l2) (res : Value) {n : Nat} (hn : n = min xs.size ys.size) (hz : n + 1 ≤ sizeLine) {g : Array GenState} {d : _} {tk : Nat} {os : _} {R : Result → Shared → Prop} :
    ∀ (k i : Nat) (h : Heap) (acc : Array Value) (c : Nat) (as : List Addr), n - i = k → i ≤ n → ZSt h z TI TO i1 i2 l1 l2 xs ys i → h.get? S = some { cls := .type "list", data := .seq acc c } → lo < h.objs.size → ZGiven h lo acc xs ys i as →
      (∀ (h' : Heap) (acc' : Array Value) (c' : Nat) (as' : List Addr), (∀ b ob, b ≠ S → b ≠ z → b ≠ TO → b ≠ i1 → b ≠ i2 → h.get? b = some ob → h'.get? b = some ob) → h'.get? S = some { cls := .type "list", data := .seq acc' c' } → ZGiven h' lo acc' xs ys n as' → R (.ok (.ret res)) ⟨h', g, d, tk, os⟩) →
      codeAny (model prog w) A (.builtin "list.extend.loop" ⟨[.ref S, .ref z, res], []⟩) R ⟨h, g, d, tk, os⟩ := by
  intro k
  induction k with
  | zero =>
    intro i h acc c as hk hi st hS hlo gv hR
    have ei : i = n := by omega
    subst ei
    refine codeAny_builtin F.entry_extend_loop ?_
    rw [Around.under_plainId F.plain_extend_loop]
    refine wpAny_bind ?_
    have hend : xs[i]? = none ∨ ys[i]? = none := by
      rcases Nat.le_total xs.size ys.size with e | e
      · left
        exact Array.getElem?_eq_none (by omega)
      · right
        exact Array.getElem?_eq_none (by omega)
    by_cases h0 : i = 0
    · obtain ⟨a, b, hz1, hto⟩ := st.first h0
      refine wpAny_pyNext_zip_end hh D hz1 st.ti hto st.it1 st.it2 st.li1 st.li2 hend fun h' hk' => ?_
      refine wpAny_pure (hR h' acc c as (fun b ob b1 b2 b3 b4 b5 e => hk' b ob b2 b3 b4 b5 e) (hk' S _ o.z o.to o.i1 o.i2 hS) ?_)
      have has : as = [] := List.eq_nil_of_length_eq_zero (gv.len.trans h0)
      subst has
      exact ⟨gv.acc, gv.len, gv.rise, gv.above, (fun a ha => by cases ha), fun j a hj => by cases hj⟩
    · obtain ⟨T, f, tx, ty, hz1, hT⟩ := st.later (by omega)
      refine wpAny_pyNext_zip_end_held hh D hz1 hT st.ti st.it1 st.it2 st.li1 st.li2 hend fun h' hk' => ?_
      refine wpAny_pure (hR h' acc c as (fun b ob b1 b2 b3 b4 b5 e => hk' b ob b2 b4 b5 e) (hk' S _ o.z o.i1 o.i2 hS) ?_)
      have keep : ∀ a ∈ as, ∀ x y, IsPair h a x y → IsPair h' a x y := fun a ha x y hp => by
        refine hk' a _ (fun e => ?_) (fun e => ?_) (fun e => ?_) hp
        · subst e
          have q : h.get? a = some _ := hp
          rw [show h.get? a = some _ from hz1] at q
          injection q with q
          injection q with q
          exact absurd q (by decide)
        · subst e
          obtain ⟨ob, q1, q2, _⟩ := st.it1
          rw [show h.get? a = some _ from hp] at q1
          cases q1
          exact absurd (show Value.type "tuple" = Value.type "list_iterator" from q2) (by decide)
        · subst e
          obtain ⟨ob, q1, q2, _⟩ := st.it2
          rw [show h.get? a = some _ from hp] at q1
          cases q1
          exact absurd (show Value.type "tuple" = Value.type "list_iterator" from q2) (by decide)
      refine ⟨gv.acc, gv.len, gv.rise, gv.above, fun a ha => ?_, fun j a hj => ?_⟩
      · obtain ⟨j, hj⟩ := List.getElem?_of_mem ha
        obtain ⟨x, y, _, _, hp⟩ := gv.pairs j a hj
        exact Heap.lt_size (keep a ha _ _ hp)
      · obtain ⟨x, y, h1, h2, hp⟩ := gv.pairs j a hj
        exact ⟨x, y, h1, h2, keep a (List.mem_of_getElem? hj) _ _ hp⟩
  | succ k ih =>
    intro i h acc c as hk hi st hS hlo gv hR
    refine codeAny_builtin F.entry_extend_loop ?_
    rw [Around.under_plainId F.plain_extend_loop]
    refine wpAny_bind ?_
    obtain ⟨x, hx⟩ : ∃ x, xs[i]? = some x := ⟨_, Array.getElem?_eq_getElem (by omega)⟩
    obtain ⟨y, hy⟩ : ∃ y, ys[i]? = some y := ⟨_, Array.getElem?_eq_getElem (by omega)⟩
    have step : ∀ h' : Heap, ZSt h' z TI TO i1 i2 l1 l2 xs ys (i + 1) → IsPair h' h.objs.size x y → h'.objs.size = h.objs.size + 1 → (∀ b ob, b ≠ z → b ≠ TO → b ≠ i1 → b ≠ i2 → h.get? b = some ob → h'.get? b = some ob) → (∀ a ∈ as, ∀ x y, IsPair h a x y → IsPair h' a x y) →
        wpAny (model prog w) A.in1 (do
          Builtin.List.listUpdate (Value.ref S) fun q => q.push (.ref h.objs.size)
          again (Code.builtin "list.extend.loop" ⟨[.ref S, .ref z, res], []⟩)) (fun fin s' => match fin with
          | Fin.done f => R (Except.ok f) s'
          | Fin.again c' => c'.quiet = true ∧ codeAny (model prog w) A c' R s') (fun e s' => R (Except.error e) s') ⟨h', g, d, tk, os⟩ := fun h' st' hp hsz hk' hkp => by
      have hS' : h'.get? S = some { cls := .type "list", data := .seq acc c } := hk' S _ o.z o.to o.i1 o.i2 hS
      have hal : acc.size = i := by
        have e1 := congrArg List.length gv.acc
        rw [List.length_map, gv.len, Array.length_toList] at e1
        exact e1
      refine wpAny_bind (wpAny_updateSeq hS' rfl (wpAny_pure ⟨plainId_quiet F.plain_extend_loop _, ?_⟩) (by omega) (by rw [Array.size_push]; omega))
      have gv' := gv.next (h' := h') rfl hlo hsz hx hy hp hkp
      refine ih (i + 1) (h'.update S (Obj.mapSeq fun q => q.push (.ref h.objs.size))) (acc.push (.ref h.objs.size)) _ (as ++ [h.objs.size]) (by omega) (by omega) (st'.upd o hS' rfl) (Heap.get?_update_self (Obj.mapSeq fun q => q.push (.ref h.objs.size)) hS' rfl) ?_ (gv'.upd hS' rfl) fun h2 acc2 c2 as2 e1 e2 e3 => ?_
      · rw [Heap.size_update, hsz]
        exact Nat.lt_succ_of_lt hlo
      · exact hR h2 acc2 c2 as2 (fun b ob b1 b2 b3 b4 b5 e => e1 b ob b1 b2 b3 b4 b5 ((Heap.get?_update_other h' _ (Ne.symm b1)).trans (hk' b ob b2 b3 b4 b5 e))) e2 e3
    by_cases h0 : i = 0
    · obtain ⟨a, b, hz1, hto⟩ := st.first h0
      have has : as = [] := List.eq_nil_of_length_eq_zero (gv.len.trans h0)
      refine wpAny_pyNext_zip_item D hz1 st.ti hto st.it1 st.it2 st.li1 st.li2 hx hy fun h' a1 a2 a3 a4 a5 a6 a7 => step h' ⟨fun e => absurd e (Nat.succ_ne_zero _), fun _ => ⟨h.objs.size, false, x, y, a1, a5⟩, a7 TI _ D.TIz D.TITO D.TIi1 D.TIi2 st.ti, a3, a4, ?_, ?_⟩ a5 a6 a7 fun a ha => by rw [has] at ha; cases ha
      · obtain ⟨q, h1, h2⟩ := st.li1
        exact ⟨q, a7 l1 q D.l1z D.l1TO D.l1i1 D.l1i2 h1, h2⟩
      · obtain ⟨q, h1, h2⟩ := st.li2
        exact ⟨q, a7 l2 q D.l2z D.l2TO D.l2i1 D.l2i2 h1, h2⟩
    · obtain ⟨T, f, tx, ty, hz1, hT⟩ := st.later (by omega)
      have kp : ∀ (h' : Heap), (∀ b ob, b ≠ z → b ≠ i1 → b ≠ i2 → h.get? b = some ob → h'.get? b = some ob) → ∀ a x y, IsPair h a x y → IsPair h' a x y := fun h' a7 a x y hp => by
        refine a7 a _ (fun e => ?_) (fun e => ?_) (fun e => ?_) hp
        · subst e
          have q : h.get? a = some _ := hp
          rw [show h.get? a = some _ from hz1] at q
          injection q with q
          injection q with q
          exact absurd q (by decide)
        · subst e
          obtain ⟨ob, q1, q2, _⟩ := st.it1
          rw [show h.get? a = some _ from hp] at q1
          cases q1
          exact absurd (show Value.type "tuple" = Value.type "list_iterator" from q2) (by decide)
        · subst e
          obtain ⟨ob, q1, q2, _⟩ := st.it2
          rw [show h.get? a = some _ from hp] at q1
          cases q1
          exact absurd (show Value.type "tuple" = Value.type "list_iterator" from q2) (by decide)
      refine wpAny_pyNext_zip_item_held D hz1 hT st.ti st.it1 st.it2 st.li1 st.li2 hx hy fun h' a1 a3 a4 a5 a6 a7 => step h' ⟨fun e => absurd e (Nat.succ_ne_zero _), fun _ => ⟨T, true, tx, ty, a1, kp h' a7 T tx ty hT⟩, a7 TI _ D.TIz D.TIi1 D.TIi2 st.ti, a3, a4, ?_, ?_⟩ a5 a6 (fun b ob b1 b2 b3 b4 e => a7 b ob b1 b3 b4 e) fun a ha x y hp => kp h' a7 a x y hp
      · obtain ⟨q, h1, h2⟩ := st.li1
        exact ⟨q, a7 l1 q D.l1z D.l1i1 D.l1i2 h1, h2⟩
      · obtain ⟨q, h1, h2⟩ := st.li2
        exact ⟨q, a7 l2 q D.l2z D.l2i1 D.l2i2 h1, h2⟩
theorem list_init_zip (hh : A.in1.handled = none) (D : ZipApart z TI TO i1 i2 l1 l2) (o : ZOff S z TI TO i1 i2 l1 l2) {n : Nat} (hn : n = min xs.size ys.size) (hz : n + 1 ≤ sizeLine) {g : Array GenState} {d : _} {tk : Nat} {os : _} {R : Result → Shared → Prop}
    (st : ZSt h z TI TO i1 i2 l1 l2 xs ys 0) (hS : h.get? S = some { cls := .type "list", data := .seq #[] }) (hlo : lo < h.objs.size)
    (hR : ∀ (h' : Heap) (acc' : Array Value) (c' : Nat) (as' : List Addr), (∀ b ob, b ≠ S → b ≠ z → b ≠ TO → b ≠ i1 → b ≠ i2 → h.get? b = some ob → h'.get? b = some ob) → h'.get? S = some { cls := .type "list", data := .seq acc' c' } → ZGiven h' lo acc' xs ys n as' → R (.ok (.ret .none)) ⟨h', g, d, tk, os⟩) :
    wpAny (model prog w) A.in1 (Builtin.«list.__init__» ⟨[.ref S, .ref z], []⟩) (fun fin s' => match fin with
      | Fin.done f => R (Except.ok f) s'
      | Fin.again c' => c'.quiet = true ∧ codeAny (model prog w) A c' R s') (fun e s' => R (Except.error e) s') ⟨h, g, d, tk, os⟩ := by
  refine wpAny_bind ?_
  unfold Builtin.List.listItems
  refine wpAny_bind (wpAny_seqItems hS rfl (wpAny_pure ?_))
  refine wpAny_bind (wpAny_updateSeq hS rfl ?_)
  refine wpAny_bind (wpAny_letGo ?_)
  obtain ⟨a0, b0, hz0, hto0⟩ := st.first rfl
  have hS1 := Heap.get?_update_self (h := h) (Obj.mapSeq fun _ => #[]) hS rfl
  have st1 := st.upd (f := Obj.mapSeq fun _ => #[]) o hS rfl
  have sz1 : (h.update S (Obj.mapSeq fun _ => #[])).objs.size = h.objs.size := Heap.size_update _ _ _
  have off1 : ∀ b ob, b ≠ S → h.get? b = some ob → (h.update S (Obj.mapSeq fun _ => #[])).get? b = some ob := fun b ob hb e => (Heap.get?_update_other h _ (Ne.symm hb)).trans e
  generalize h.update S (Obj.mapSeq fun _ => #[]) = h1 at hS1 st1 sz1 off1 ⊢
  have hz1 : h1.get? z = some _ := off1 z _ (Ne.symm o.z) hz0
  have hT : ∀ (h2 : Heap) (g2 : _) , h2.get? z = some { cls := Value.type "zip", data := Data.fields #[Value.none, Value.bool false, Value.bool false, Value.ref TI, Value.ref TO] } → (Shared.mk h2 g2 d tk os).TypeIs (.ref z) "zip" := fun h2 g2 e => ⟨_, e, rfl⟩
  refine wpAny_bind (wpAny_typeOf (hT h1 g hz1) ?_)
  have e1 : (Builtin.List.listSameRef (Value.ref S) (Value.ref z) || Value.type "zip" == Value.type "list" || Value.type "zip" == Value.type "tuple") = false := by
    have : Builtin.List.listSameRef (Value.ref S) (Value.ref z) = false := beq_eq_false_iff_ne.mpr o.z
    rw [this]
    rfl
  rw [e1, if_neg (by decide)]
  refine wpAny_bind (wpAny_pyIter_zip hz1 ?_)
  refine wpAny_bind (wpAny_holding ?_)
  refine wpAny_bind (wpAny_specialOf (hT h1 g hz1) zip_no_len ?_)
  refine wpAny_bind (wpAny_specialOf (hT h1 g hz1) zip_no_hint (wpAny_pure ?_))
  rw [if_pos (by rfl)]
  refine wpAny_bind (wpAny_rule ?_)
  refine wpAny_bind ?_
  unfold Builtin.List.listTouch
  refine wpAny_bind (wpAny_updateSeq hS1 rfl ?_)
  have hS2 := Heap.get?_update_self (h := h1) (Obj.mapSeq fun q => q.push Value.none) hS1 rfl
  have st2 := st1.upd (f := Obj.mapSeq fun q => q.push Value.none) o hS1 rfl
  have sz2 : (h1.update S (Obj.mapSeq fun q => q.push Value.none)).objs.size = h1.objs.size := Heap.size_update _ _ _
  have off2 : ∀ b ob, b ≠ S → h1.get? b = some ob → (h1.update S (Obj.mapSeq fun q => q.push Value.none)).get? b = some ob := fun b ob hb e => (Heap.get?_update_other h1 _ (Ne.symm hb)).trans e
  generalize h1.update S (Obj.mapSeq fun q => q.push Value.none) = h2 at hS2 st2 sz2 off2 ⊢
  refine wpAny_updateSeq hS2 rfl ?_
  have hS3 := Heap.get?_update_self (h := h2) (Obj.mapSeq fun q => q.pop) hS2 rfl
  have st3 := st2.upd (f := Obj.mapSeq fun q => q.pop) o hS2 rfl
  have sz3 : (h2.update S (Obj.mapSeq fun q => q.pop)).objs.size = h2.objs.size := Heap.size_update _ _ _
  have off3 : ∀ b ob, b ≠ S → h2.get? b = some ob → (h2.update S (Obj.mapSeq fun q => q.pop)).get? b = some ob := fun b ob hb e => (Heap.get?_update_other h2 _ (Ne.symm hb)).trans e
  refine wpAny_pure ⟨plainId_quiet F.plain_extend_loop _, ?_⟩
  refine zip_loop (lo := lo) hh D o .none hn hz n 0 (h2.update S (Obj.mapSeq fun q => q.pop)) #[] _ [] (Nat.sub_zero n) (Nat.zero_le n) st3 hS3 (by rw [sz3, sz2, sz1]; exact hlo) ⟨rfl, rfl, .nil, (fun _ h => nomatch h), (fun _ h => nomatch h), (fun _ _ h => by cases h)⟩ fun h' acc' c' as' k1 k2 k3 => ?_
  exact hR h' acc' c' as' (fun b ob b1 b2 b3 b4 b5 e => k1 b ob b1 b2 b3 b4 b5 (off3 b ob b1 (off2 b ob b1 (off1 b ob b1 e)))) k2 k3
/-- list(z), z a zip of two lists as it was made -/
theorem call_list_zip {E : Value → Shared → Prop} {Q : Value → Shared → Prop} (hh : A.in1.in1.handled = none) (D : ZipApart z TI TO i1 i2 l1 l2) {n : Nat} (hn : n = min xs.size ys.size) (hz : n + 1 ≤ sizeLine) {s : Shared} (st : ZSt s.heap z TI TO i1 i2 l1 l2 xs ys 0)
    (hQ : ∀ (h' : Heap) (acc' : Array Value) (c' : Nat) (as' : List Addr), (∀ b ob, b ≠ z → b ≠ TO → b ≠ i1 → b ≠ i2 → s.heap.get? b = some ob → h'.get? b = some ob) → h'.get? s.heap.objs.size = some { cls := .type "list", data := .seq acc' c' } → ZGiven h' s.heap.objs.size acc' xs ys n as' → Q (.ref s.heap.objs.size) { s with heap := h' }) :
    wpAny (model prog w) A (call (.type "list") [.ref z]) Q E s := by
  obtain ⟨h, g, d, tk, os⟩ := s
  obtain ⟨a0, b0, hz0, hto0⟩ := st.first rfl
  refine callType_codes F.called_list (F.typeCall_list_1 _) F.entry_list_init (code_list_new (.ref z) (Q₁ := fun v s' => v = .ref h.objs.size ∧ s' = ⟨h.push { cls := .type "list", data := .seq #[] }, g, d, tk, os⟩) ⟨rfl, rfl⟩) fun obj s₁ h₁ => ?_
  obtain ⟨rfl, rfl⟩ := h₁
  have hS := Heap.get?_push_size h (o := { cls := .type "list", data := .seq #[] }) rfl
  have kp : ∀ b ob, h.get? b = some ob → (h.push { cls := Value.type "list", data := Data.seq #[] }).get? b = some ob := fun b ob e => Heap.get?_push_of_some _ e
  have lt : ∀ {b : Addr} {ob : Obj}, h.get? b = some ob → h.objs.size ≠ b := fun e => Nat.ne_of_gt (Heap.lt_size e)
  have o : ZOff h.objs.size z TI TO i1 i2 l1 l2 := ⟨lt hz0, lt st.ti, lt hto0, (by obtain ⟨_, q, _⟩ := st.it1; exact lt q), (by obtain ⟨_, q, _⟩ := st.it2; exact lt q), (by obtain ⟨_, q, _⟩ := st.li1; exact lt q), (by obtain ⟨_, q, _⟩ := st.li2; exact lt q)⟩
  have st' : ZSt (h.push { cls := Value.type "list", data := Data.seq #[] }) z TI TO i1 i2 l1 l2 xs ys 0 := ⟨fun _ => ⟨a0, b0, kp _ _ hz0, kp _ _ hto0⟩, fun e => absurd e (Nat.lt_irrefl _), kp _ _ st.ti, (by obtain ⟨q, q1, q2⟩ := st.it1; exact ⟨q, kp _ _ q1, q2⟩), (by obtain ⟨q, q1, q2⟩ := st.it2; exact ⟨q, kp _ _ q1, q2⟩), (by obtain ⟨q, q1, q2⟩ := st.li1; exact ⟨q, kp _ _ q1, q2⟩), (by obtain ⟨q, q1, q2⟩ := st.li2; exact ⟨q, kp _ _ q1, q2⟩)⟩
  refine ⟨⟨_, hS, rfl⟩, F.args_list_init_2 _ _, list_init_zip (lo := h.objs.size) hh D o hn hz st' hS (by rw [Heap.size_push]; exact Nat.lt_succ_self _) fun h' acc' c' as' k1 k2 k3 => ⟨rfl, ?_⟩⟩
  exact hQ h' acc' c' as' (fun b ob b2 b3 b4 b5 e => k1 b ob (Ne.symm (lt e)) b2 b3 b4 b5 (kp b ob e)) k2 k3
end
end PySem

set_option Elab.async false
set_option maxRecDepth 100000
set_option maxHeartbeats 4000000
/-! tuple(range(a, b, c)), list(range(a, b, c)), list(zip(x, y)) as expressions -/
namespace L2
open PySem PySem.Spec PyProof.Rows
section
variable {X : Cx}
theorem vals3 {x y z : V} {us : List Value} (r : Vals [x, y, z] us) : ∃ u v w, us = [u, v, w] ∧ RelV x u ∧ RelV y v ∧ RelV z w := by
  cases r with
  | cons h1 r =>
    obtain ⟨v, w, rfl, h2, h3⟩ := vals2 r
    exact ⟨_, v, w, rfl, h1, h2, h3⟩
theorem pylong_no {x c : Int} (h : c.natAbs < 1073741824) : Builtin.divisionGoesByPylong x c = false := by
  unfold Builtin.divisionGoesByPylong
  have hd : ¬ (if (c == 0) = true then 0 else c.natAbs.log2 / 30 + 1) > 300 := by
    split
    · omega
    · rename_i h0
      have hc : c.natAbs ≠ 0 := fun e => h0 (by rw [Int.natAbs_eq_zero.mp e]; rfl)
      have : c.natAbs.log2 < 30 := (Nat.log2_lt hc).mpr (by simpa using h)
      omega
  dsimp only
  rw [decide_eq_false hd]
  rfl
theorem prg_3 {e : Expr} {es : List Expr} {ta : TA} {p pos : Pos} (hg : Gl X "range") (hm : X.mg "range" = none) (ha : PA X (e :: es) ta) (he : starEach (e :: es) X.env = (false, eval e X.env) :: starEach es X.env := by rfl) (hpl : (backTo pos (starEach es X.env)).any (·.1) = false := by rfl) :
    PRg3 X (.Call (.Name "range" p) (e :: es) [] pos) (tRg3 ta) := by
  intro pins s σ H Q I h
  refine PyProof.Rows.Call_ (ld_blt I hg hm (u := .type "range") (by rfl) (PyProof.Rows.callWith_type1 (thn (ha.run pos pins s σ H _ I h) fun us s1 ⟨vs, H1, I1, r1, q1⟩ => ?_) he hpl)) rfl
  obtain ⟨a, b, c, rfl, hc, ⟨h1, h2, h3, h4, h5⟩, q⟩ := q1
  obtain ⟨u, v, w, rfl, ⟨t1, rfl⟩, ⟨t2, rfl⟩, ⟨t3, rfl⟩⟩ := vals3 r1
  refine call_range_3 hc ⟨s1.heap.objs.size, a, b, c, t1, t2, t3, H1, rfl, Heap.get?_push_size _ rfl, ?_, q⟩ (.inl (pylong_no h5))
  exact I1.kept (t' := s1.toks) fun b o e => Heap.get?_push_of_some _ e
def rgC (a c : Int) (n : Nat) : List V := (List.range n).map fun (i : Nat) => .int (a + (i : Int) * c)
theorem vals_rgC {a c : Int} {n : Nat} {acc : Array Value} (h : ItemsOf (fun i v => ∃ t, v = Value.int (a + (i : Int) * c) t) acc n) : Vals (rgC a c n) acc.toList := by
  refine vals_of_at ?_ fun j x u hx hu => ?_
  · show (rgC a c n).length = acc.toList.length
    rw [show acc.toList.length = acc.size from rfl, h.1]
    simp [rgC]
  · have hj : j < n := by
      have := (List.getElem?_eq_some_iff.mp hx).1
      simpa [rgC] using this
    obtain ⟨t, rfl⟩ := h.2 j u (by rw [← Array.getElem?_toList]; exact hu)
    unfold rgC at hx
    rw [List.getElem?_map, List.getElem?_range hj] at hx
    cases hx
    exact ⟨t, rfl⟩
def tTupRg3 (te : St → Hp → (Int → Int → Int → Hp → Prop) → Prop) : TE := fun σ H Q => te σ H fun a b c H1 => ∃ n, RgC a b c n ∧ n ≤ 2 ^ 24 ∧ ∀ q, H1 q = none → Q (.ref q) (upd H1 q (.tup (rgC a c n)))
def tLstRg3 (te : St → Hp → (Int → Int → Int → Hp → Prop) → Prop) : TE := fun σ H Q => te σ H fun a b c H1 => ∃ n, RgC a b c n ∧ n ≤ 2 ^ 24 ∧ ∀ q, H1 q = none → Q (.ref q) (upd H1 q (.lst (rgC a c n)))
theorem pe_tupRg3 {e : Expr} {te : St → Hp → (Int → Int → Int → Hp → Prop) → Prop} {p pos : Pos} (hc : X.calm = true) (hg : Gl X "tuple") (hm : X.mg "tuple" = none) (he : PRg3 X e te) (hs : starEach [e] X.env = (false, eval e X.env) :: starEach [] X.env := by rfl) :
    PE X (.Call (.Name "tuple" p) [e] [] pos) (tTupRg3 te) := by
  refine ⟨fun pins s σ H Q I h => ?_⟩
  refine PyProof.Rows.Call_ (ld_blt I hg hm (u := .type "tuple") (by rfl) (PyProof.Rows.callWith_type1 ?_ hs rfl)) rfl
  rw [hs]
  refine Calls.spliced_cons (thn (he pins s σ H _ I h) fun x s1 ⟨r, a, b, c, t, u, v, H1, ex, hr, I1, n, hn, hz, q⟩ => Calls.spliced_nil ?_)
  subst ex
  obtain ⟨_, _, h3, h4⟩ := hn
  refine call_tuple_range (I1.ok.hd hc) hr h3 h4 hz fun h' tk acc hk hacc => ?_
  have I2 := I1.kept (t' := tk) hk
  have hzl : (rgC a c n).length ≤ sizeLine := by
    rw [show (rgC a c n).length = n by simp [rgC]]
    exact Nat.le_trans hz (by decide)
  refine ⟨.ref h'.objs.size, upd H1 h'.objs.size (.tup (rgC a c n)), I2.laid (t' := tk) (fun b o e => Heap.get?_push_of_some _ e) (Nat.le_refl _) ⟨hzl, acc.toList, vals_rgC hacc, ⟨_, Heap.get?_push_size _ rfl, rfl, _, rfl⟩⟩, rfl, q _ (I2.hok.fresh (Nat.le_refl _))⟩
theorem pe_listRg3 {e : Expr} {te : St → Hp → (Int → Int → Int → Hp → Prop) → Prop} {p pos : Pos} (hc : X.calm = true) (hg : Gl X "list") (hm : X.mg "list" = none) (he : PRg3 X e te) (hs : starEach [e] X.env = (false, eval e X.env) :: starEach [] X.env := by rfl) :
    PE X (.Call (.Name "list" p) [e] [] pos) (tLstRg3 te) := by
  refine ⟨fun pins s σ H Q I h => ?_⟩
  refine PyProof.Rows.Call_ (ld_blt I hg hm (u := .type "list") (by rfl) (PyProof.Rows.callWith_type1 ?_ hs rfl)) rfl
  rw [hs]
  refine Calls.spliced_cons (thn (he pins s σ H _ I h) fun x s1 ⟨r, a, b, c, t, u, v, H1, ex, hr, I1, n, hn, hz, q⟩ => Calls.spliced_nil ?_)
  subst ex
  obtain ⟨_, _, h3, h4⟩ := hn
  refine call_list_range (I1.ok.hd hc) hr h3 h4 hz fun h' tk acc c' hk hS hacc => ?_
  have hzl : (rgC a c n).length ≤ sizeLine := by
    rw [show (rgC a c n).length = n by simp [rgC]]
    exact Nat.le_trans hz (by decide)
  refine ⟨.ref s1.heap.objs.size, upd H1 s1.heap.objs.size (.lst (rgC a c n)), I1.laid (t' := tk) hk (Nat.le_refl _) ⟨hzl, acc.toList, c', vals_rgC hacc, hS⟩, rfl, q _ (I1.hok.fresh (Nat.le_refl _))⟩
/-! list(zip(x, y)), two lists of ints -/
theorem zipApart {n la lb : Nat} (h1 : la < n) (h2 : lb < n) : ZipApart (n + 4) (n + 2) (n + 3) n (n + 1) la lb where
  TIz := show (n + 2 : Nat) ≠ n + 4 by omega
  TOz := show (n + 3 : Nat) ≠ n + 4 by omega
  i1z := show (n : Nat) ≠ n + 4 by omega
  i2z := show (n + 1 : Nat) ≠ n + 4 by omega
  TITO := show (n + 2 : Nat) ≠ n + 3 by omega
  TIi1 := show (n + 2 : Nat) ≠ n by omega
  TIi2 := show (n + 2 : Nat) ≠ n + 1 by omega
  TOi1 := show (n + 3 : Nat) ≠ n by omega
  TOi2 := show (n + 3 : Nat) ≠ n + 1 by omega
  i12 := show (n : Nat) ≠ n + 1 by omega
  l1z := show (la : Nat) ≠ n + 4 by omega
  l1TO := show (la : Nat) ≠ n + 3 by omega
  l1i1 := show (la : Nat) ≠ n by omega
  l1i2 := show (la : Nat) ≠ n + 1 by omega
  l2z := show (lb : Nat) ≠ n + 4 by omega
  l2TO := show (lb : Nat) ≠ n + 3 by omega
  l2i1 := show (lb : Nat) ≠ n by omega
  l2i2 := show (lb : Nat) ≠ n + 1 by omega
theorem lt_off {n b : Nat} (h : b < n) : b ≠ n + 4 ∧ b ≠ n + 3 ∧ b ≠ n ∧ b ≠ n + 1 := ⟨by omega, by omega, by omega, by omega⟩
/-- the same heap with k places more, all of them free -/
theorem padded (h : Heap) : ∀ k : Nat, ∃ h2 : Heap, h2.objs.size = h.objs.size + k ∧ (∀ b o, h.get? b = some o → h2.get? b = some o) ∧ ∀ b o, h2.get? b = some o → h.get? b = some o
  | 0 => ⟨h, rfl, fun _ _ e => e, fun _ _ e => e⟩
  | k + 1 => by
    obtain ⟨h2, e1, e2, e3⟩ := padded h k
    refine ⟨h2.push { cls := .none, data := .freed }, by rw [Heap.size_push, e1]; rfl, fun b o e => Heap.get?_push_of_some _ (e2 b o e), fun b o e => e3 b o ?_⟩
    obtain ⟨objs, life⟩ := h2
    unfold Heap.push Heap.get? at e
    dsimp only at e
    rw [Array.getElem?_push] at e
    by_cases hb : b = objs.size
    · rw [if_pos hb] at e
      cases e
    · rw [if_neg hb] at e
      exact e
theorem paired_at {α β : Type} {R : α → β → Prop} : ∀ {as : List α} {qs : List β} {j : Nat} {t : α}, Paired R as qs → as[j]? = some t → ∃ q, qs[j]? = some q ∧ R t q
  | _ :: _, _ :: _, 0, _, .cons h _, e => by
    cases e
    exact ⟨_, rfl, h⟩
  | _ :: _, _ :: _, j + 1, _, .cons _ h, e => by
    obtain ⟨q, h1, h2⟩ := paired_at (j := j) h (by simpa using e)
    exact ⟨q, by simpa using h1, h2⟩
theorem kv_zip : ∀ (xs : List Int) (ys : List Int) (us : List Value), Vals (ys.map V.int) us → KV ((xs.zip ys).map fun p => ((Sum.inl p.1 : Key), V.int p.2)) ((xs.zip us).map fun p => ((Sum.inl p.1 : Key), p.2))
  | [], _, _, _ => .nil
  | _ :: _, [], [], _ => .nil
  | x :: xs, y :: ys, u :: us, .cons h1 h2 => .cons ⟨rfl, h1⟩ (kv_zip xs ys us h2)
def tLstZip (K : PySem.W.Frag) (t : TA) : TE := fun σ H Q => t σ H fun vs H1 => ∃ (la lb : Addr) (xs ys : List Int), vs = [.ref la, .ref lb] ∧ SqL K H1 la (xs.map V.int) ∧ SqL K H1 lb (ys.map V.int) ∧ xs.length = ys.length ∧ xs.length ≤ 1000000 ∧
  ∀ (D : Addr) (as : List Addr) (H2 : Hp), Ext H1 H2 → H2 D = some (.lst (as.map V.ref)) → as.length = xs.length → (∀ (j : Nat) (t : Addr), as[j]? = some t → ∃ x y, xs[j]? = some x ∧ ys[j]? = some y ∧ H2 t = some (.tup [.int x, .int y])) → Q (.ref D) H2
theorem pe_listZip {a : Expr} {es : List Expr} {ta : TA} {p pz zpos pos : Pos} (hc : X.calm = true) (hg : Gl X "list") (hm : X.mg "list" = none) (hg2 : Gl X "zip") (hm2 : X.mg "zip" = none) (ha : PA X (a :: es) ta)
    (hs : starEach [.Call (.Name "zip" pz) (a :: es) [] zpos] X.env = (false, eval (.Call (.Name "zip" pz) (a :: es) [] zpos) X.env) :: starEach [] X.env := by rfl) (he : starEach (a :: es) X.env = (false, eval a X.env) :: starEach es X.env := by rfl) (hpl : (backTo zpos (starEach es X.env)).any (·.1) = false := by rfl) :
    PE X (.Call (.Name "list" p) [.Call (.Name "zip" pz) (a :: es) [] zpos] [] pos) (tLstZip X.K ta) := by
  refine ⟨fun pins s σ H Q I h => ?_⟩
  refine PyProof.Rows.Call_ (ld_blt I hg hm (u := .type "list") (by rfl) (PyProof.Rows.callWith_type1 ?_ hs rfl)) rfl
  rw [hs]
  refine Calls.spliced_cons (PyProof.Rows.Call_ (ld_blt I hg2 hm2 (u := .type "zip") (by rfl) (PyProof.Rows.callWith_type1 (thn (ha.run zpos pins s σ H _ I h) fun us s1 ⟨vs, H1, I1, r1, q1⟩ => ?_) he hpl)) rfl)
  obtain ⟨la, lb, xs, ys, rfl, hxs, hys, hll, hz, q⟩ := q1
  obtain ⟨u1, u2, rfl, r1a, r1b⟩ := vals2 r1
  obtain rfl : u1 = Value.ref la := r1a
  obtain rfl : u2 = Value.ref lb := r1b
  obtain ⟨its1, rv1, pl1, _⟩ := I1.list hxs
  obtain ⟨its2, rv2, pl2, _⟩ := I1.list hys
  have hl1 : its1.length = xs.length := by rw [← rv1.length, List.length_map]
  have hl2 : its2.length = ys.length := by rw [← rv2.length, List.length_map]
  have lt1 : la < s1.heap.objs.size := by obtain ⟨o, _, e, _⟩ := pl1; exact Heap.lt_size e
  have lt2 : lb < s1.heap.objs.size := by obtain ⟨o, _, e, _⟩ := pl2; exact Heap.lt_size e
  refine call_zip_2 pl1.isList pl2.isList fun h2 z1 z2 z3 z4 z5 z6 z7 => Calls.spliced_nil ?_
  have I2 := I1.kept (t' := s1.toks) z7
  have D : ZipApart (s1.heap.objs.size + 4) (s1.heap.objs.size + 2) (s1.heap.objs.size + 3) s1.heap.objs.size (s1.heap.objs.size + 1) la lb := zipApart lt1 lt2
  have st : ZSt h2 (s1.heap.objs.size + 4) (s1.heap.objs.size + 2) (s1.heap.objs.size + 3) s1.heap.objs.size (s1.heap.objs.size + 1) la lb its1.toArray its2.toArray 0 := ⟨fun _ => ⟨_, _, z1, z3⟩, fun e => absurd e (Nat.lt_irrefl _), z2, z4, z5, (by obtain ⟨o, q1, q2⟩ := pl1.isList; exact ⟨o, z7 _ _ q1, q2⟩), (by obtain ⟨o, q1, q2⟩ := pl2.isList; exact ⟨o, z7 _ _ q1, q2⟩)⟩
  refine call_list_zip (n := xs.length) (s := { s1 with heap := h2 }) (I2.ok.hd hc) D (by simp; omega) (Nat.le_trans (Nat.succ_le_succ hz) (by decide)) st fun h3 acc c as k1 k2 k3 => ?_
  obtain ⟨hp, p1, p2, p3⟩ := padded s1.heap 5
  have I3 := I1.kept (h' := hp) (t' := s1.toks) p2
  have hk : ∀ b ob, hp.get? b = some ob → h3.get? b = some ob := fun b ob e => by
    have e1 := p3 b ob e
    obtain ⟨n1, n2, n3, n4⟩ := lt_off (Heap.lt_size e1)
    exact k1 b ob n1 n2 n3 n4 (z7 b ob e1)
  have hsz : hp.objs.size = h2.objs.size := by rw [p1, z6]
  have hG : W.KdxG (mixKind X.prog X.w) ((xs.zip its2).map fun p => ((Sum.inl p.1 : Key), p.2)) hp.objs.size h3 as := by
    rw [hsz]
    refine ⟨k3.rise, k3.above, fun j a hj => ?_⟩
    obtain ⟨x, y, hx, hy, hpair⟩ := k3.pairs j a hj
    have hx' : its1[j]? = some x := by simpa using hx
    have hy' : its2[j]? = some y := by simpa using hy
    obtain ⟨n, hn⟩ : ∃ n, xs[j]? = some n := ⟨_, List.getElem?_eq_getElem (by have := (List.getElem?_eq_some_iff.mp hx').1; omega)⟩
    obtain ⟨u, hu, ru⟩ := rv1.get (i := j) (x := .int n) (by rw [List.getElem?_map, hn]; rfl)
    rw [hx'] at hu
    cases hu
    obtain ⟨t, rfl⟩ := ru
    refine ⟨_, .inl n, y, ?_, ?_, hpair⟩
    · rw [List.getElem?_map, (List.getElem?_zip_eq_some (z := (n, y))).mpr ⟨hn, hy'⟩]
      rfl
    · show (n == n) = true
      exact beq_self_eq_true n
  have hal : as.length = ((xs.zip its2).map fun p => ((Sum.inl p.1 : Key), p.2)).length := by
    rw [k3.len, List.length_map, List.length_zip]
    omega
  obtain ⟨H3, e1, e2, e3, e4, e5, e6, I4⟩ := LiI.items_laid (kvs := (xs.zip ys).map fun p => ((Sum.inl p.1 : Key), V.int p.2)) (tk := s1.toks) (s := { s1 with heap := hp, toks := s1.toks }) I3 (by rw [List.length_map, List.length_zip]; exact Nat.le_trans (Nat.min_le_left _ _) (Nat.le_trans hz (by decide))) (kv_zip xs ys its2 rv2) hk (by rw [show ({ s1 with heap := hp, toks := s1.toks } : Shared).heap.objs.size = h2.objs.size from hsz]; exact k2) hal hG k3.acc
  refine ⟨.ref h2.objs.size, H3, I4, rfl, q h2.objs.size as H3 e1 ?_ k3.len fun j t hj => ?_⟩
  · rw [← hsz]
    exact e5
  · obtain ⟨q', h1, h2'⟩ := paired_at e6 hj
    rw [List.getElem?_map] at h1
    cases hz' : (xs.zip ys)[j]? with
    | none => rw [hz'] at h1; cases h1
    | some p =>
      rw [hz'] at h1
      cases h1
      obtain ⟨h3', h4'⟩ := List.getElem?_zip_eq_some.mp hz'
      exact ⟨p.1, p.2, h3', h4', h2'⟩
end
end L2

set_option Elab.async false
set_option maxRecDepth 100000
set_option maxHeartbeats 4000000
namespace L2
open PySem PySem.Spec PyProof.Rows
section
variable {X : Cx} {K : PySem.W.Frag}
theorem op_in_seqK (h : X.K = K) : OpR X (compareOp .In) (rIn K false) := by
  subst h
  exact op_in_seq
theorem op_notIn_seqK (h : X.K = K) : OpR X (compareOp .NotIn) (rIn K true) := by
  subst h
  exact op_notIn_seq
theorem inV_ints (a : Int) : ∀ ns : List Int, inV (.int a) (ns.map V.int) = decide (a ∈ ns)
  | [] => rfl
  | n :: ns => by
    have ih := inV_ints a ns
    unfold inV at ih ⊢
    rw [List.map_cons, List.any_cons, ih]
    have e : eqV (.int n) (.int a) = decide (n = a) := rfl
    rw [e, Bool.eq_iff_iff]
    simp
    constructor
    · rintro (e | e)
      · exact .inl e.symm
      · exact .inr e
    · rintro (e | e)
      · exact .inl e.symm
      · exact .inr e
theorem flat_ints {ns : List Int} : (ns.map V.int).all flatV = true := by
  rw [List.all_eq_true]
  intro v hv
  obtain ⟨n, _, rfl⟩ := List.mem_map.mp hv
  rfl
end
end L2

set_option Elab.async false
set_option maxRecDepth 100000
set_option maxHeartbeats 4000000
namespace L2
open PySem PySem.Spec PyProof.Rows
section
variable {X : Cx} {K : PySem.W.Frag} {a : Expr} {ta : TE}
/-- a truth test with K named, for what stands within a comprehension -/
def tTruK (K : PySem.W.Frag) (ta : TE) : TT := fun σ H Q => ta σ H fun x H' => ∃ k, TruV K x H' k ∧ Q k H'
theorem pt_truthK (h : X.K = K) (ha : PE X a ta) (he : ∀ whole, isTrue a X.env whole = (do let v ← whole; standAt a.pos; holding [v] (truthy v))) :
    PT X a (tTruK K ta) := by
  subst h
  exact pt_truth ha he
end
end L2

set_option Elab.async false
set_option maxRecDepth 100000
set_option maxHeartbeats 4000000
/-! for over a list or a tuple, one walk for both; the body only adds to the heap -/
namespace L2
open PySem PySem.Spec PyProof.Rows
section
variable {K : PySem.W.Frag} {a : Addr} {xs : List V}
theorem for_sq {g : TG} {tb : TS} {D : Ends} {σ : St} {H : Hp} (hx : SqL K H a xs ∨ SqT K H a xs) (Pv : Nat → St → Hp → Prop) (h0 : Pv 0 σ H) (hE : ∀ i σ' H', Pv i σ' H' → Ext H H')
    (hs : ∀ i x σ' H', xs[i]? = some x → Pv i σ' H' → g x σ' H' fun σ2 H2 => tb { D with nx := Pv (i + 1), ct := Pv (i + 1), bk := D.nx } σ2 H2) (hd : ∀ σ' H', Pv xs.length σ' H' → D.nx σ' H') :
    ((∃ xs, SqL K H a xs) ∧ turnsOf g tb D σ (Itl K a) H) ∨ ((∃ xs, SqT K H a xs) ∧ turnsOf g tb D σ (Itt K a) H) := by
  have step : ∀ i x σ' H' H'', i < xs.length → Pv i σ' H' → YAt xs i H' x H'' → g x σ' H'' fun σ2 H2 => tb { D with nx := Pv (i + 1), ct := Pv (i + 1), bk := D.nx } σ2 H2 := by
    rintro i x σ' H' H'' _ pv ⟨rfl, hx'⟩
    exact hs i x σ' H'' hx' pv
  rcases hx with hx | hx
  · exact .inl ⟨⟨xs, hx⟩, for_it (walk_list (xs := xs)) Pv h0 (fun i σ' H' _ pv => hx.ext (hE i σ' H' pv)) step hd⟩
  · exact .inr ⟨⟨xs, hx⟩, for_it (walk_tup (xs := xs)) Pv h0 (fun i σ' H' _ pv => hx.ext (hE i σ' H' pv)) step hd⟩
end
end L2

set_option Elab.async false
set_option maxRecDepth 100000
set_option maxHeartbeats 4000000
/-! a tuple whose object is known: its methods may be called -/
namespace L2
open PySem PySem.Spec PyProof.Rows
def FrzT (H : Hp) (a : Addr) (ts : List V) : Prop := ∃ o, H a = some (.frz o (.tup ts)) ∧ o.dict = none
theorem FrzT.sqT {K : PySem.W.Frag} {H : Hp} {a : Addr} {ts : List V} (h : FrzT H a ts) : SqT K H a ts := by
  obtain ⟨o, h, _⟩ := h
  exact .inl (.inr ⟨o, h⟩)
theorem FrzT.ext {H H' : Hp} {a : Addr} {ts : List V} (h : FrzT H a ts) (e : Ext H H') : FrzT H' a ts := by
  obtain ⟨o, h, d⟩ := h
  exact ⟨o, e _ _ h, d⟩
def rTupFrz (K : PySem.W.Frag) : List V → Hp → VK → Prop := fun xs H Q => ∃ p ys, xs = [.ref p] ∧ SqL K H p ys ∧ ∀ l o, H l = none → o.dict = none → Q (.ref l) (upd H l (.frz o (.tup ys)))
section
variable {X : Cx}
theorem call_tuple_frz : CallR X (.type "tuple") (rTupFrz X.K) := by
  intro pins s σ H xs us Q I r h
  obtain ⟨p, ys, rfl, hq, q⟩ := h
  obtain ⟨u, rfl, rx⟩ := vals1 r
  cases rx
  obtain ⟨its, r', pl, hz⟩ := I.list hq
  have hlen := r'.length
  refine call_tuple_list pl.isList (fun h' kp => ?_) (by simp only [List.size_toArray] <;> omega)
  have I1 : Inv X pins σ H { s with heap := h' } := I.kept (t' := s.toks) kp
  have I2 : Inv X pins σ (upd H h'.objs.size (.frz { cls := .type "tuple", data := .seq its.toArray } (.tup ys))) { s with heap := h'.push { cls := .type "tuple", data := .seq its.toArray } } :=
    I1.laid (t' := s.toks) (fun b o e => Heap.get?_push_of_some _ e) (Nat.le_refl _) (show ObjOk X.prog X.w _ _ _ (.frz _ (.tup ys)) from ⟨Heap.get?_push_size _ rfl, hz, its, r', IsTup.new _ _⟩)
  exact ⟨.ref h'.objs.size, _, I2, rfl, q _ _ (I1.hok.fresh (Nat.le_refl _)) rfl⟩
def tTM (r : V → List V → Hp → VK → Prop) (to : TE) (t : TA) : TE := fun σ H Q => to σ H fun x H1 => ∃ a ts, x = .ref a ∧ FrzT H1 a ts ∧ t σ H1 fun xs H2 => r x xs H2 Q
variable {o e : Expr} {es : List Expr} {to : TE} {t : TA} {name : Str} {apos cpos : Pos} {id : String} {r : V → List V → Hp → VK → Prop}
theorem pe_tm (slot : Slot "tuple" name id) (hty : typeOf (.builtin id) = pure (.type "method_descriptor")) (hm : MtR X id r) (ho : PE X o to) (ha : PA X (e :: es) t)
    (hbase : attributeBase o name X.env (eval o X.env) = eval o X.env := by rfl)
    (hfew : ((backTo cpos (starEach (e :: es) X.env)).all (fun x => !x.1) && (backToKw cpos (keywordEach [] X.env)).all (fun x => x.1.isSome)
      && decide ((e :: es).length + ([] : List Keyword).length + (if ([] : List Keyword).isEmpty then 0 else 1) < 30)) = true := by rfl)
    (hline : (apos.endLine == cpos.line) = true := by rfl) (hs : starEach (e :: es) X.env = (false, eval e X.env) :: starEach es X.env := by rfl) (hplain : (backTo cpos (starEach es X.env)).any (·.1) = false := by rfl) :
    PE X (.Call (.Attribute o name apos) (e :: es) [] cpos) (tTM r to t) := by
  refine ⟨fun pins s σ H Q I h => ?_⟩
  refine wpAny_Call_method_late hbase hfew hline rfl (thn (ho.run pins s σ H _ I h) fun v s1 ⟨x, H1, I1, r1, a, ts, ex, hf, q1⟩ => ?_)
  subst ex
  obtain ⟨ob, hf, hd⟩ := hf
  obtain ⟨h0, _, its, _, ⟨ob', h0', hc, _⟩⟩ := I1.hok a _ hf
  rw [h0] at h0'
  cases h0'
  cases (show v = Value.ref a from r1)
  refine ⟨"tuple", id, PySem.F.plainAttrs_tuple, slot, hty, ⟨ob, h0, hc⟩, fun b eb => by cases eb; exact ⟨ob, h0, hd⟩, ?_⟩
  have hA := ha.run cpos pins s1 σ H1 _ I1 q1
  rw [hs] at hA ⊢
  refine Calls.callWith_builtin (by show (false || (backTo cpos (starEach es X.env)).any (·.1)) = false; rw [hplain] <;> rfl) (Calls.evalArgs_plain ?_)
  exact thn hA fun us s2 ⟨vs, H2, I2, r2, q2⟩ => hm pins s2 σ H2 (.ref a) vs (.ref a) us Q I2 rfl r2 q2
end
theorem sl_listK {X : Cx} {K : PySem.W.Frag} (h : X.K = K) : SlR X (rSlL K) := by
  subst h
  exact sl_list
section
variable {K : PySem.W.Frag} {a : Addr} {xs : List V}
/-- for over a list or a tuple that the body leaves, though it writes elsewhere -/
theorem for_sqM {g : TG} {tb : TS} {D : Ends} {σ : St} {H0 H : Hp} (hx : SqL K H0 a xs ∨ SqT K H0 a xs) (Pv : Nat → St → Hp → Prop) (h0 : Pv 0 σ H) (hE : ∀ i σ' H', Pv i σ' H' → Ext H0 H')
    (hs : ∀ i x σ' H', xs[i]? = some x → Pv i σ' H' → g x σ' H' fun σ2 H2 => tb { D with nx := Pv (i + 1), ct := Pv (i + 1), bk := D.nx } σ2 H2) (hd : ∀ σ' H', Pv xs.length σ' H' → D.nx σ' H') :
    ((∃ xs, SqL K H a xs) ∧ turnsOf g tb D σ (Itl K a) H) ∨ ((∃ xs, SqT K H a xs) ∧ turnsOf g tb D σ (Itt K a) H) := by
  have step : ∀ i x σ' H' H'', i < xs.length → Pv i σ' H' → YAt xs i H' x H'' → g x σ' H'' fun σ2 H2 => tb { D with nx := Pv (i + 1), ct := Pv (i + 1), bk := D.nx } σ2 H2 := by
    rintro i x σ' H' H'' _ pv ⟨rfl, hx'⟩
    exact hs i x σ' H'' hx' pv
  have e0 := hE 0 _ _ h0
  rcases hx with hx | hx
  · exact .inl ⟨⟨xs, hx.ext e0⟩, for_it (walk_list (xs := xs)) Pv h0 (fun i σ' H' _ pv => hx.ext (hE i σ' H' pv)) step hd⟩
  · exact .inr ⟨⟨xs, hx.ext e0⟩, for_it (walk_tup (xs := xs)) Pv h0 (fun i σ' H' _ pv => hx.ext (hE i σ' H' pv)) step hd⟩
/-- for i, x in enumerate(e), the body leaving e, though it writes elsewhere -/
theorem for_enSqM {g : TG} {tb : TS} {D : Ends} {σ : St} {H0 H : Hp} (hx : SqL K H0 a xs ∨ SqT K H0 a xs) (Pv : Nat → St → Hp → Prop) (h0 : Pv 0 σ H) (hE : ∀ i σ' H', Pv i σ' H' → Ext H0 H')
    (hs : ∀ i x σ' H' T, xs[i]? = some x → Pv i σ' H' → H' T = none → g (.ref T) σ' (upd H' T (.tup [.int (i : Nat), x])) fun σ2 H2 => tb { D with nx := Pv (i + 1), ct := Pv (i + 1), bk := D.nx } σ2 H2) (hd : ∀ σ' H', Pv xs.length σ' H' → D.nx σ' H') :
    ((∃ xs, SqL K H a xs) ∧ turnsOf g tb D σ (Ite K a) H) ∨ ((∃ xs, SqT K H a xs) ∧ turnsOf g tb D σ (Itet K a) H) := by
  have step : ∀ i x σ' H' H'', i < xs.length → Pv i σ' H' → YPair (fun i => some (V.int (i : Nat))) (fun i => xs[i]?) i H' x H'' → g x σ' H'' fun σ2 H2 => tb { D with nx := Pv (i + 1), ct := Pv (i + 1), bk := D.nx } σ2 H2 := by
    rintro i v σ' H' H'' hi pv ⟨T, x, y, rfl, hT, rfl, hx', hy⟩
    cases hx'
    exact hs i y σ' H' T hy pv hT
  have e0 := hE 0 _ _ h0
  rcases hx with hx | hx
  · exact .inl ⟨⟨xs, hx.ext e0⟩, for_it (walk_enum (xs := xs)) Pv h0 (fun i σ' H' _ pv => hx.ext (hE i σ' H' pv)) step hd⟩
  · exact .inr ⟨⟨xs, hx.ext e0⟩, for_it (walk_enT (xs := xs)) Pv h0 (fun i σ' H' _ pv => hx.ext (hE i σ' H' pv)) step hd⟩
end
end L2

set_option Elab.async false
set_option maxRecDepth 100000
set_option maxHeartbeats 4000000
/-! data beside instances within a tuple -/
namespace L2
open PySem PySem.Spec PyProof.Rows
section
variable {X : Cx}
variable {n : Nat}
/-- two things of data -/
def DDat (K : PySem.W.Frag) : EqvB := fun x y H k => ∃ a b d e, x = .ref a ∧ y = .ref b ∧ (a = b → k = true) ∧ Dp K H x d ∧ Dp K H y e ∧ SeqAt.shaped d = true ∧ SeqAt.shaped e = true ∧ k = PyData.eqv d e
theorem rcB_dat : RcB X n (DDat X.K) := by
  intro A pins s σ H x y u v k sb I rx ry d
  obtain ⟨a, b, d, e, rfl, rfl, _, hd, he, sd, se, rfl⟩ := d
  obtain ⟨as, r1⟩ := Dp.reads I d _ u hd rx
  obtain ⟨bs, r2⟩ := Dp.reads I e _ v he ry
  exact SeqAt.compareEq_shaped r1 r2 sd se sb.room.units ⟨rfl, H, I, Ext.rfl'⟩
theorem eqB_dat : EqB X n (DDat X.K) := rcB_dat.eqB fun x y H k d => by
  obtain ⟨a, b, _, _, h1, h2, h3, _⟩ := d
  exact ⟨a, b, h1, h2, h3⟩
theorem EqB.or {D D' : EqvB} (h : EqB X n D) (h' : EqB X n D') : EqB X n (fun x y H k => D x y H k ∨ D' x y H k) := by
  intro A pins s σ H x y u v k sb I rx ry d
  exact d.elim (fun d => h A pins s σ H x y u v k sb I rx ry d) (fun d => h' A pins s σ H x y u v k sb I rx ry d)
theorem MonB.or {D D' : EqvB} (h : MonB D) (h' : MonB D') : MonB (fun x y H k => D x y H k ∨ D' x y H k) := fun x y H H' k e d => d.imp (h x y H H' k e) (h' x y H H' k e)
theorem mon_dat {K : PySem.W.Frag} : MonB (DDat K) := fun x y H H' k e d => by
  obtain ⟨a, b, d, f, h1, h2, h3, hd, he, h4⟩ := d
  exact ⟨a, b, d, f, h1, h2, h3, dp_ext e _ _ hd, dp_ext e _ _ he, h4⟩
end
end L2

set_option Elab.async false
set_option maxRecDepth 100000
set_option maxHeartbeats 4000000
/-! not in, of an own __contains__ -/
namespace L2
open PySem PySem.Spec PyProof.Rows
section
variable {X : Cx} {CX : CXT} {k : Nat} {f C : Addr} {fd : FuncData} {ps : List Str} {sp : Sp}
def rNinO (C : Addr) (sp : Sp) : R2 := fun x y H Q => ∃ a dx fs, y = .ref a ∧ H a = some (.ins C dx fs) ∧ sp [y, x] H (fun v H' => ∃ b, v = .bl b ∧ Q (.bl (!b)) H') E0
theorem op_ninO (F : FnOk X.prog X.w X.K X.mg X.base CX k f fd ps sp) (hs : PySem.W.findIn X.K (.ref C) "__contains__" = some (some (.ref f))) (hf : PySem.W.isFn X.K (.ref f) = true) (hr : Room k X.A) (hb : Binds X.K fd ps []) (hx : Passes CX X E0) : OpR X (compareOp .NotIn) (rNinO C sp) := by
  intro pins s g J x y v u Q I rx ry hq
  obtain ⟨a, dx, fs, rfl, ha, q⟩ := hq
  cases (show u = Value.ref a from ry)
  obtain ⟨mA, O, _⟩ := ins_get I.hok ha
  obtain ⟨od, O, _⟩ := O.look
  show wpAny (model X.prog X.w) X.A (contains (.ref a) v >>= fun b => pure (.bool (!b))) (EP X pins g Q) X.xe s
  refine wpAny_bind (PySem.W.contains_fn I.kIn O hs hf (wpAny_mono (run_at (vs := [.ref a, x]) F hr rfl hb hx I (.cons rfl (.cons rx .nil)) q) (fun r s' z => ?_) fun _ _ e => e))
  obtain ⟨w', J', I', rv, b, rfl, q'⟩ := z
  cases rv
  exact ⟨b, rfl, wpAny_pure ⟨.bl (!b), J', I', rfl, q'⟩⟩
theorem ninO {m : Nat} (O : OwnM X.prog X.w X.K X.mg X.base CX C "__contains__" m ps sp) (hr : Room m X.A) (hx : Passes CX X E0) : OpR X (compareOp .NotIn) (rNinO C sp) := by
  obtain ⟨f, fd, F, M, hi, hb⟩ := O.ex
  exact op_ninO F M.at_ hi hr hb hx
end
end L2

set_option Elab.async false
set_option maxRecDepth 100000
set_option maxHeartbeats 4000000
/-! xs.count(y), over data -/
namespace L2
open PySem PySem.Spec PyProof.Rows
section
variable {X : Cx}
def rCntD (K : PySem.W.Frag) : V → List V → Hp → VK → Prop := fun x xs H Q => ∃ (a : Addr) (y : V) (d : PyData) (ds : List PyData), x = V.ref a ∧ xs = [y] ∧ Dp K H (V.ref a) (.list ds) ∧ Dp K H y d ∧ PyData.plainAll ds = true ∧ d.plain = true ∧ PyData.depthAll ds ≤ 60 ∧ Q (.int ((ds.countP fun z => PyData.eqv z d : Nat) : Int)) H
theorem mt_countD (hu : X.A.units + 64 < cLine) : MtR X "list.count" (rCntD X.K) := by
  intro pins s σ H x xs v us Q I rx rxs h
  obtain ⟨a, y, d, ds, rfl, rfl, hl, hy, sl, sd, hdp, q⟩ := h
  cases rx
  obtain ⟨u, rfl, ru⟩ := rxs.one
  obtain ⟨bs, r1⟩ := Dp.reads I d y u hy ru
  cases hl with
  | lst hs ha =>
    obtain ⟨its, rv, pl, _⟩ := I.list hs
    obtain ⟨as, h4⟩ := Dp.readsAll I ds _ its ha rv
    exact SeqAt.count_list_data pl.isList (by simpa using h4) r1 sl sd (by have := Nat.min_le_left (PyData.depthAll ds) d.depth; omega) ⟨.int _, H, I.tok _, ⟨_, rfl⟩, q⟩
end
end L2

set_option Elab.async false
set_option linter.all false
set_option maxRecDepth 100000
set_option maxHeartbeats 4000000
/-! a generator's for and if -/
namespace L2
open PySem PySem.Spec PyProof.Rows GenW
section
variable {M : Model} {A : Around} {R : GenEnd} {Y : Protocol} {n : Nat} {s₀ s : Shared} {c : Code} {fs : List Frame} {env : Env} {K : Flow → Sem PySem.Fin} {J : Value → Sem PySem.Fin} {gd : Bool → Bool} {lv : List Value → List Value}
/-- the row that an error leaves in a loop's code -/
abbrev marked (env : Env) (e : Value) : Sem PySem.Fin := (do noteFrame e env; theTreesLotGoes e : Sem Unit).bind fun _ => .raise e
/-- what a loop's body goes on to -/
abbrev onward (l : Code) : Flow → Sem PySem.Fin := fun f => match f with
  | .next | .cont => .pure (.again l)
  | .brk => .pure (.done .next)
  | .ret v => .pure (.done (.ret v))
theorem gseg_if {test : Expr} {body orelse : List Stmt} {pos : Pos}
    (h : wpAny M (A.over c fs) (isTrue test env (eval test env)) (fun b s' => Seg M A R Y n s₀ c ((if b = true then execs body env else execs orelse env).wrap K J gd lv) fs s') (fun x s' => Seg M A R Y n s₀ c (J x) fs s') s) :
    Seg M A R Y n s₀ c ((exec (.If test body orelse pos) env).wrap K J gd lv) fs s := by
  rw [exec_If]
  refine seg_bind_wrap (wpAny_standAt ?_)
  refine seg_bind_wrap (wpAny_mono h (fun b s' hb => ?_) fun _ _ hx => hx)
  cases b <;> exact hb
theorem gseg_for {tg iter : Expr} {body : List Stmt} {pos : Pos} (hs : ∀ x, foldedSetIterable iter env x = pure x)
    (h : wpAny M (A.over c fs) (eval iter env) (fun v s1 => wpAny M (A.over c fs) (pyIter v) (fun it s2 => ∀ p, Seg M A R Y n s₀ (.forLoop tg it body [] env) (M.den (.forLoop tg it body [] env))
      (.ret (fun r => ((match r with | .ok f => (.pure f : Sem Flow) | .error e => .raise e).onRaise (cameBack env)).wrap K J gd lv) none (gd false) (lv []) c p [] :: fs) s2) (fun x s' => Seg M A R Y n s₀ c (J x) fs s') s1) (fun x s' => Seg M A R Y n s₀ c (J x) fs s') s) :
    Seg M A R Y n s₀ c ((exec (.For tg iter body [] pos) env).wrap K J gd lv) fs s := by
  rw [exec_For]
  refine seg_bind_wrap (wpAny_standAt ?_)
  refine seg_bind_wrap (wpAny_mono h (fun v s1 h1 => ?_) fun _ _ hx => hx)
  refine seg_bind_wrap (wpAny_of_eq (hs v) ?_)
  refine seg_bind_wrap (wpAny_standAt ?_)
  refine seg_bind_wrap (wpAny_holding (wpAny_mono h1 (fun it s2 h2 => ?_) fun _ _ hx => hx))
  exact seg_call h2
end
section
variable {prog : Program} {w : World} {A : Around} {R : GenEnd} {Y : Protocol} {n : Nat} {s₀ s : Shared} {fs : List Frame} {env : Env}
theorem gseg_turn {tg : Expr} {it : Value} {body : List Stmt}
    (h : wpAny (model prog w) (A.over (.forLoop tg it body [] env) fs) (pyNext it) (fun r s1 => match r with
      | none => Seg (model prog w) A R Y n s₀ (.forLoop tg it body [] env) (.pure (.again (.block [] env))) fs s1
      | some v => wpAny (model prog w) (A.over (.forLoop tg it body [] env) fs) (letOwnedTupleGo tg it v) (fun _ s2 => wpAny (model prog w) (A.over (.forLoop tg it body [] env) fs) (assign tg env v) (fun _ s3 =>
          Seg (model prog w) A R Y n s₀ (.forLoop tg it body [] env) ((execs body env).wrap (onward (.forLoop tg it body [] env)) (marked env) id id) fs s3)
          (fun x s' => Seg (model prog w) A R Y n s₀ (.forLoop tg it body [] env) (marked env x) fs s') s2) (fun x s' => Seg (model prog w) A R Y n s₀ (.forLoop tg it body [] env) (marked env x) fs s') s1)
      (fun x s' => Seg (model prog w) A R Y n s₀ (.forLoop tg it body [] env) (marked env x) fs s') s) :
    Seg (model prog w) A R Y n s₀ (.forLoop tg it body [] env) ((model prog w).den (.forLoop tg it body [] env)) fs s := by
  show Seg _ A R Y n s₀ _ ((forTurn tg it body [] env).onRaise (fun x => do noteFrame x env; theTreesLotGoes x)) fs s
  unfold forTurn
  rw [Sem.onRaise_eq_wrap]
  refine seg_bind_wrap (wpAny_standAt ?_)
  refine seg_bind_wrap (wpAny_onRaise (wpAny_mono h (fun r s1 h1 => ?_) fun _ _ hx => wpAny_standAt hx))
  cases r with
  | none => exact h1
  | some v =>
    refine seg_bind_wrap (wpAny_mono h1 (fun _ s2 h2 => ?_) fun _ _ hx => hx)
    refine seg_bind_wrap (wpAny_mono h2 (fun _ s3 h3 => ?_) fun _ _ hx => hx)
    rw [Sem.bind_eq_wrap', Sem.wrap_wrap]
    rw [Sem.wrap_congr (execs body env) _ _ (K' := onward (.forLoop tg it body [] env)) (H' := marked env) (fun f => by cases f <;> rfl) (fun _ => by rfl)]
    exact h3
end
section
variable {X : Cx} {pos : Pos}
def tGIf (c : TT) (t u : TGn) : TGn := fun D ys σ H => c σ H fun b H1 => if b = true then t D ys σ H1 else u D ys σ H1
theorem gs_if {test : Expr} {body orelse : List Stmt} {tc : TT} {t u : TGn} (hc : PT X test tc) (hb : GSs X body t) (ho : GSs X orelse u) : GS X (.If test body orelse pos) (tGIf tc t u) := by
  refine ⟨fun A S ip R n ys s₀ c fs K J gd lv s σ H D g hn k hI ht => ?_⟩
  refine gseg_if ?_
  rw [g.over]
  obtain ⟨acc, cc, r, I⟩ := hI
  refine wpAny_mono (hc.run _ s σ H _ I ht) (fun b s' hb' => ?_) fun x s' hx => k.exc n s₀ x s' hx
  obtain ⟨H2, I2, q2⟩ := hb'
  cases b with
  | true => exact hb.run A S ip R n ys s₀ c fs K J gd lv s' σ H2 D g hn k ⟨acc, cc, r, I2⟩ q2
  | false => exact ho.run A S ip R n ys s₀ c fs K J gd lv s' σ H2 D g hn k ⟨acc, cc, r, I2⟩ q2
/-- W: what holds at turn i (a measure; what is out; the slots; the heap) -/
def tGFor (wi : TI) (g : TG) (tb : TGn) : TGn := fun D ys σ H => wi σ H fun J H1 => ∃ W : Nat → Nat → List V → St → Hp → Prop, (∃ m, W 0 m ys σ H1) ∧ ∀ i m ys σ H, W i m ys σ H →
  (J.stop i H ∧ D.nx ys σ H) ∨ (J.go i H ∧ ∃ N : List V → St → Hp → Prop, (∀ ys' σ' H', N ys' σ' H' → ∃ m', m' < m ∧ W (i + 1) m' ys' σ' H') ∧ ∀ x H', J.yld i H x H' → g x σ H' fun σ2 H2 => tb { D with nx := N, ct := N, bk := D.nx } ys σ2 H2)
theorem gs_for {tg iter : Expr} {body : List Stmt} {wi : TI} {g : TG} {tb : TGn} (hp : PassesOwn (model X.prog X.w) X.A X.env X.xe) (hc : X.calm = true) (hi : PI X tg iter wi) (hg : PG X tg g) (hb : GSs X body tb)
    (hs : ∀ x, foldedSetIterable iter X.env x = pure x := by intro _; rfl) : GS X (.For tg iter body [] pos) (tGFor wi g tb) := by
  refine ⟨fun A S ip R n ys s₀ c fs K J gd lv s σ H D g0 hn k hI ht => ?_⟩
  refine gseg_for hs ?_
  obtain ⟨acc, cc, r, I⟩ := hI
  rw [g0.over]
  refine wpAny_mono (hi.run _ s σ H _ I ht) (fun v s1 h1 => wpAny_mono h1 (fun itv s2 h2 p => ?_) fun x s' hx => k.exc n s₀ x s' hx) fun x s' hx => k.exc n s₀ x s' hx
  obtain ⟨it, fp, tn, Jt, H2, e, I2, T, st2, f2, W, ⟨m0, w0⟩, turn⟩ := h2
  subst e
  have notS : ∀ b ∈ fp, b ≠ S := fun b hb z => (f2 b hb).2.2.2.2.2 (S, lstObj acc cc) (List.mem_append_right _ List.mem_cons_self) z.symm
  have stat : ∀ {H' : Hp} {acc' : Array Value} {cc' : Nat}, (∀ b ∈ fp, H' b = none) → ∀ b ∈ fp, FpOk X ((S, lstObj acc' cc') :: ip) H' b := fun {H' acc' cc'} hn b hb => by
    obtain ⟨_, f1, f3, f4, f5, f6⟩ := f2 b hb
    refine ⟨hn b hb, f1, f3, f4, f5, fun q hq => ?_⟩
    rcases List.mem_append.mp hq with z | z
    · exact f6 q (List.mem_append_left _ z)
    · rcases List.mem_cons.mp z with z | z
      · rw [z]
        exact f6 (S, lstObj acc cc) (List.mem_append_right _ List.mem_cons_self)
      · exact f6 q (List.mem_append_right _ (List.mem_cons_of_mem _ z))
  have gl := fun (kk : Result → Sem PySem.Fin) => gc_loop (k := kk) (c' := .forLoop tg (.ref it) body [] X.env) (l := lv []) (kp := []) (p := p) g0 rfl rfl
  have gb := fun (kk : Result → Sem PySem.Fin) => gc_loop (k := kk) (c' := .block [] X.env) (l := lv []) (kp := []) (p := p) g0 rfl rfl
  have loop : ∀ (m n i : Nat) (ys : List V) (s₀ s : Shared) (σ : St) (H : Hp), n + ys.length = sizeLine → W i m ys σ H → tn i s.heap → (∀ b ∈ fp, H b = none) → GI X S ip ys σ H s →
      Seg (model X.prog X.w) A R (GY X S) n s₀ (.forLoop tg (.ref it) body [] X.env) ((model X.prog X.w).den (.forLoop tg (.ref it) body [] X.env))
        (.ret (fun r => ((match r with | .ok f => (.pure f : Sem Flow) | .error e => .raise e).onRaise (cameBack X.env)).wrap K J gd lv) none (gd false) (lv []) c p [] :: fs) s := by
    intro m
    induction m using Nat.strongRecOn with
    | ind m ih =>
      intro n i ys s₀ s3 σ3 H3 hn w3 st3 fr3 hI3
      have ee : ∀ (n : Nat) (s₀ : Shared) (x : Value) (s' : Shared), X.xe x s' → Seg (model X.prog X.w) A R (GY X S) n s₀ (.forLoop tg (.ref it) body [] X.env) (marked X.env x)
          (.ret (fun r => ((match r with | .ok f => (.pure f : Sem Flow) | .error e => .raise e).onRaise (cameBack X.env)).wrap K J gd lv) none (gd false) (lv []) c p [] :: fs) s' := fun n s₀ x s' hx => by
        unfold marked
        rw [Sem.bind_eq_wrap]
        refine seg_wrap ?_
        rw [(gl _).over]
        refine wpAny_bind (wpAny_mono (hp x s' hx) (fun _ s'' hcb => wpAny_theTreesLotGoes ?_) fun y s'' hcb => ?_)
        · exact seg_leaf (.error x) (seg_cameBack g0 k hcb)
        · exact seg_leaf (.error y) (seg_cameBack g0 k hcb)
      obtain ⟨acc3, cc3, r3, I3⟩ := hI3
      refine gseg_turn ?_
      rw [(gl _).over]
      rcases turn i m ys σ3 H3 w3 with ⟨stop, qn⟩ | ⟨go, N, hN, step⟩
      · refine wpAny_mono (T.done X rfl rfl rfl hc i _ s3 σ3 H3 X.xe I3 (stat fr3) st3 stop) (fun r s4 hr => ?_) fun x s' hx => ee n s₀ x s' hx
        obtain ⟨rfl, I4⟩ := hr
        refine seg_again rfl ?_
        show Seg _ A R _ n s₀ _ (((execs [] X.env).onRaise (fun x => do noteFrame x X.env; theTreesLotGoes x)) >>= fun f => (.pure (.done f) : Sem PySem.Fin)) _ s4
        exact seg_leaf (.ok .next) (k.ok n ys s₀ s4 .next hn ⟨σ3, H3, ⟨acc3, cc3, r3, I4⟩, qn⟩)
      · refine wpAny_mono (T.item X rfl rfl rfl hc i _ s3 σ3 H3 X.xe I3 (stat fr3) st3 go) (fun r s4 hr => ?_) fun x s' hx => ee n s₀ x s' hx
        obtain ⟨u, rfl, h4⟩ := hr
        refine wpAny_mono h4 (fun _ s5 h5 => ?_) fun x s' hx => ee n s₀ x s' hx
        obtain ⟨x, H5, I5, r5, y5, st5, fr5⟩ := h5
        have I5' := I5.pinned (stat fr5) (T.obj _ _ st5)
        refine wpAny_mono (hg.run _ s5 σ3 H5 x u _ I5' r5 (step x H5 y5)) (fun _ s6 h6 => ?_) fun x s' hx => ee n s₀ x s' hx
        obtain ⟨σ6, H6, I6, q6⟩ := h6
        have g1 := gl (fun r => ((match r with | .ok f => (.pure f : Sem Flow) | .error e => .raise e).onRaise (cameBack X.env)).wrap K J gd lv)
        have gl' : GC X S (ip ++ pinsAt fp s5.heap) A (.forLoop tg (.ref it) body [] X.env) (.ret (fun r => ((match r with | .ok f => (.pure f : Sem Flow) | .error e => .raise e).onRaise (cameBack X.env)).wrap K J gd lv) none (gd false) (lv []) c p [] :: fs) id :=
          ⟨g1.pn, fun q hq => (List.mem_append.mp hq).elim (g1.ip q) fun z => notS q.1 (of_pinsAt z).1, g1.apart, g1.over, g1.split, g1.guard, rfl⟩
        refine hb.run A S (ip ++ pinsAt fp s5.heap) R n ys s₀ _ _ _ _ id id s6 σ6 H6 { D with nx := N, ct := N, bk := D.nx } gl' hn ⟨fun n' ys' s₀' s7 f hn' hs => ?_, fun n' s₀' x s7 hx => ee n' s₀' x s7 hx⟩ ⟨acc3, cc3, r3, I6⟩ q6
        have back : ∀ {σ7 : St} {H7 : Hp}, GI X S (ip ++ pinsAt fp s5.heap) ys' σ7 H7 s7 → GI X S ip ys' σ7 H7 s7 ∧ tn (i + 1) s7.heap ∧ ∀ b ∈ fp, H7 b = none := fun {σ7 H7} h7 => by
          obtain ⟨acc7, cc7, r7, I7⟩ := h7
          have pin : ∀ b ∈ fp, ∀ o, s5.heap.get? b = some o → s7.heap.get? b = some o ∧ H7 b = none := fun b hb o e => by
            obtain ⟨e1, e2, _⟩ := I7.pin (b, o) (List.mem_append_right _ (List.mem_cons_of_mem _ (List.mem_append_right _ (mem_pinsAt hb e))))
            exact ⟨e1, e2⟩
          refine ⟨⟨acc7, cc7, r7, Inv.unpinned (pins := (S, lstObj acc7 cc7) :: ip) (pl := pinsAt fp s5.heap) I7⟩, T.keep _ _ _ st5 fun b hb o e => (pin b hb o e).1, fun b hb => ?_⟩
          obtain ⟨o, e, _⟩ := T.obj _ _ st5 b hb
          exact (pin b hb o e).2
        cases f with
        | next =>
          obtain ⟨σ7, H7, G7, n7⟩ := hs
          obtain ⟨m', hm, w7⟩ := hN ys' σ7 H7 n7
          obtain ⟨G8, st8, fr8⟩ := back G7
          exact seg_again rfl (ih m' hm n' (i + 1) ys' s₀' s7 σ7 H7 hn' w7 st8 fr8 G8)
        | cont =>
          obtain ⟨σ7, H7, G7, n7⟩ := hs
          obtain ⟨m', hm, w7⟩ := hN ys' σ7 H7 n7
          obtain ⟨G8, st8, fr8⟩ := back G7
          exact seg_again rfl (ih m' hm n' (i + 1) ys' s₀' s7 σ7 H7 hn' w7 st8 fr8 G8)
        | brk =>
          obtain ⟨σ7, H7, G7, n7⟩ := hs
          exact seg_leaf (.ok .next) (k.ok n' ys' s₀' s7 .next hn' ⟨σ7, H7, (back G7).1, n7⟩)
        | ret v =>
          obtain ⟨x7, σ7, H7, G7, r7, n7⟩ := hs
          exact seg_leaf (.ok (.ret v)) (k.ok n' ys' s₀' s7 (.ret v) hn' ⟨x7, σ7, H7, (back G7).1, r7, n7⟩)
  exact loop m0 n 0 ys s₀ s2 σ H2 hn w0 st2 (fun b hb => (f2 b hb).1) ⟨acc, cc, r, I2⟩
end
end L2

set_option Elab.async false
set_option linter.all false
set_option maxRecDepth 100000
set_option maxHeartbeats 4000000
/-! max(xs, default=d), min(xs, default=d), ints -/
namespace L2
open PySem PySem.Spec PyProof.Rows
def mxD (d : Int) : List Int → Int
  | [] => d
  | n :: ns => ns.foldl max n
def mnD (d : Int) : List Int → Int
  | [] => d
  | n :: ns => ns.foldl min n
theorem foldl_max (n : Int) : ∀ ns : List Int, (ns.foldl max n = n ∨ ns.foldl max n ∈ ns) ∧ n ≤ ns.foldl max n ∧ ∀ y ∈ ns, y ≤ ns.foldl max n
  | [] => ⟨.inl rfl, Int.le_refl _, fun _ h => nomatch h⟩
  | k :: ns => by
    obtain ⟨h1, h2, h3⟩ := foldl_max (max n k) ns
    rw [List.foldl_cons]
    refine ⟨?_, by omega, fun y hy => ?_⟩
    · rcases h1 with h1 | h1
      · rcases Int.le_total n k with h | h
        · exact .inr (by rw [h1, Int.max_eq_right h]; exact List.mem_cons_self)
        · exact .inl (by rw [h1, Int.max_eq_left h])
      · exact .inr (List.mem_cons_of_mem _ h1)
    · rcases List.mem_cons.mp hy with rfl | hy
      · omega
      · exact h3 y hy
theorem foldl_min (n : Int) : ∀ ns : List Int, (ns.foldl min n = n ∨ ns.foldl min n ∈ ns) ∧ ns.foldl min n ≤ n ∧ ∀ y ∈ ns, ns.foldl min n ≤ y
  | [] => ⟨.inl rfl, Int.le_refl _, fun _ h => nomatch h⟩
  | k :: ns => by
    obtain ⟨h1, h2, h3⟩ := foldl_min (min n k) ns
    rw [List.foldl_cons]
    refine ⟨?_, by omega, fun y hy => ?_⟩
    · rcases h1 with h1 | h1
      · rcases Int.le_total n k with h | h
        · exact .inl (by rw [h1, Int.min_eq_left h])
        · exact .inr (by rw [h1, Int.min_eq_right h]; exact List.mem_cons_self)
      · exact .inr (List.mem_cons_of_mem _ h1)
    · rcases List.mem_cons.mp hy with rfl | hy
      · omega
      · exact h3 y hy
theorem mxD_mem {d : Int} {ns : List Int} (h : ns ≠ []) : mxD d ns ∈ ns ∧ ∀ y ∈ ns, y ≤ mxD d ns := by
  cases ns with
  | nil => exact absurd rfl h
  | cons n ns =>
    obtain ⟨h1, h2, h3⟩ := foldl_max n ns
    refine ⟨?_, fun y hy => ?_⟩
    · rcases h1 with h1 | h1
      · exact List.mem_cons.mpr (.inl h1)
      · exact List.mem_cons_of_mem _ h1
    · rcases List.mem_cons.mp hy with rfl | hy
      · exact h2
      · exact h3 y hy
theorem mnD_mem {d : Int} {ns : List Int} (h : ns ≠ []) : mnD d ns ∈ ns ∧ ∀ y ∈ ns, mnD d ns ≤ y := by
  cases ns with
  | nil => exact absurd rfl h
  | cons n ns =>
    obtain ⟨h1, h2, h3⟩ := foldl_min n ns
    refine ⟨?_, fun y hy => ?_⟩
    · rcases h1 with h1 | h1
      · exact List.mem_cons.mpr (.inl h1)
      · exact List.mem_cons_of_mem _ h1
    · rcases List.mem_cons.mp hy with rfl | hy
      · exact h2
      · exact h3 y hy
section
variable {X : Cx}
def rMxD (K : PySem.W.Frag) (f : Int → List Int → Int) : List V → List V → Hp → VK → Prop := fun vs zs H Q => ∃ (a : Addr) (ns : List Int) (d : Int), vs = [V.ref a] ∧ zs = [.int d] ∧ SqL K H a (ns.map V.int) ∧ Q (.int (f d ns)) H
theorem ints_pd (ns : List Int) : (ns.map V.int).map pd = ns.map PyData.int := by
  rw [List.map_map]
  rfl
theorem ints_alike (ns : List Int) : PySem.W.AlikeAll (ns.map PyData.int) := by
  refine ⟨fun x hx y hy => ?_, fun x hx => ?_⟩
  · obtain ⟨a, _, rfl⟩ := List.mem_map.mp hx
    obtain ⟨b, _, rfl⟩ := List.mem_map.mp hy
    rfl
  · obtain ⟨a, _, rfl⟩ := List.mem_map.mp hx
    exact fun z => nomatch z
theorem ints_dep (ns : List Int) : PyData.depthAll (ns.map PyData.int) = 0 := by
  rw [← ints_pd]
  exact (lay_all fl_ints).2
theorem cr_maxD (hc : X.calm = true) (hu : X.A.units + 64 < cLine) : CallRK X (.builtin "max") [Str.ofString "default"] (rMxD X.K mxD) := by
  intro pins s σ H vs zs us ws Q I r rz h
  obtain ⟨a, ns, d, rfl, rfl, hs, q⟩ := h
  obtain rfl := Vals.ref1 r
  obtain ⟨w1, rfl, e1⟩ := vals1 rz
  obtain ⟨its, rv, hl, _⟩ := I.list hs
  have hd : DpAll X.K H (ns.map V.int) (ns.map PyData.int) := by rw [← ints_pd]; exact dp_all fl_ints
  obtain ⟨as, h4⟩ := Dp.readsAll I _ _ its hd rv
  refine PySem.W.max_list_default (xs := ns.map PyData.int) (I.ok.hd hc) hl.isList (by simpa using h4) (ints_alike ns) (by rw [ints_dep]; omega) (fun he h' tk hk => ?_) (fun y ys i v h' tk bs he hi hr hk => ?_)
  · have hn : ns = [] := List.map_eq_nil_iff.mp he
    subst hn
    exact ⟨.int d, H, I.kept hk, e1, q⟩
  · cases ns with
    | nil => cases he
    | cons n ns =>
      rw [List.map_cons] at he
      injection he with he1 he2
      subst he1 he2
      rw [PySem.W.maxD_ints] at hr
      cases hr
      exact ⟨.int _, H, I.kept hk, ⟨_, rfl⟩, q⟩
theorem cr_minD (hc : X.calm = true) (hu : X.A.units + 64 < cLine) : CallRK X (.builtin "min") [Str.ofString "default"] (rMxD X.K mnD) := by
  intro pins s σ H vs zs us ws Q I r rz h
  obtain ⟨a, ns, d, rfl, rfl, hs, q⟩ := h
  obtain rfl := Vals.ref1 r
  obtain ⟨w1, rfl, e1⟩ := vals1 rz
  obtain ⟨its, rv, hl, _⟩ := I.list hs
  have hd : DpAll X.K H (ns.map V.int) (ns.map PyData.int) := by rw [← ints_pd]; exact dp_all fl_ints
  obtain ⟨as, h4⟩ := Dp.readsAll I _ _ its hd rv
  refine PySem.W.min_list_default (xs := ns.map PyData.int) (I.ok.hd hc) hl.isList (by simpa using h4) (ints_alike ns) (by rw [ints_dep]; omega) (fun he h' tk hk => ?_) (fun y ys i v h' tk bs he hi hr hk => ?_)
  · have hn : ns = [] := List.map_eq_nil_iff.mp he
    subst hn
    exact ⟨.int d, H, I.kept hk, e1, q⟩
  · cases ns with
    | nil => cases he
    | cons n ns =>
      rw [List.map_cons] at he
      injection he with he1 he2
      subst he1 he2
      rw [PySem.W.minD_ints] at hr
      cases hr
      exact ⟨.int _, H, I.kept hk, ⟨_, rfl⟩, q⟩
end
end L2

set_option Elab.async false
set_option linter.all false
set_option maxRecDepth 100000
set_option maxHeartbeats 4000000
/-! a generator def of the top that keeps its promise; list(f(..)) of it -/
namespace L2
open PySem PySem.Spec PyProof.Rows GenW
section
variable {P : Program} {w : World} {K : PySem.W.Frag} {mg : Str → Option Value} {base : Heap}
structure OwnG (P : Program) (w : World) (K : PySem.W.Frag) (mg : Str → Option Value) (base : Heap) (x : Str) (k : Nat) (ps : List Str) (sp : SpG) : Prop where
  ex : ∃ (f : Addr) (fd : FuncData), GFn P w K mg base k f fd ps sp ∧ mg x = some (.ref f) ∧ PySem.W.keepIn K (.ref f) = true ∧ Binds K fd ps []
theorem DefAt.ownG {x : Str} {st : Stmt} {ps : List Str} {k : Nat} {sp : SpG} (D : DefAt K mg x st ps) (h : ∀ f fd, Fun K x x st f fd → GFn P w K mg base k f fd ps sp) : OwnG P w K mg base x k ps sp := by
  obtain ⟨f, fd, F, hm, hb⟩ := D.ex
  exact ⟨f, fd, h f fd F, hm, F.kp, hb⟩
/-- a generator def by its body -/
theorem gfn_fun {x qual : Str} {st : Stmt} {f : Addr} {fd : FuncData} {N ps : List Str} {k : Nat} {sp : SpG} (F : Fun K x qual st f fd) (S : GScope N ps (defScope st)) (len : ∀ vs H Q E, sp vs H Q E → vs.length = ps.length)
    (hbody : ∀ (cdv : Value) (A : Around) (outer : List Env) (s : Shared) (H : Hp) (vs : List V) (Q : List V → Hp → Prop) (E : XK) (pn : List (Addr × Obj)), Room k (A.deeper (envOfC qual (defScope st) s.heap.objs.size f cdv)) → sp vs H Q E →
      ∃ t, GSs (gcxOf P w K mg base N qual (defScope st) f cdv A outer s H E pn) (defBody st) t ∧ t { nx := fun ys _ H' => Q ys H', rt := fun ys v H' => v = .non ∧ Q ys H' } [] (start N vs) H) : GFn P w K mg base (k + 1) f fd ps sp := by
  obtain ⟨oc, od, kV, doc, pm, an, cdv, ct, osl, rfl, lk, hcd⟩ := F.ex
  exact gfn_of lk hcd S len fun A outer s H vs Q E pn hr hsp => hbody cdv A outer s H vs Q E pn hr hsp
end
section
variable {X : Cx} {x nm : Str} {k : Nat} {ps : List Str} {sp : SpG} {e : Expr} {es : List Expr} {t : TA} {p p2 pos pos2 : Pos}
theorem noStop0 {K : PySem.W.Frag} : NoStop K E0 := fun _ _ _ h => False.elim h
/-- list(f(e, ..)) -/
theorem pe_listOwnG (O : OwnG X.prog X.w X.K X.mg X.base x k ps sp) (hr : Room (k + 3) X.A) (ha : PA X (e :: es) t) (hmg : X.mg nm = none) (hgl : Gl X nm := by rfl) (hg : Gl X x := by rfl) (hv : bootBuiltins nm = some (.type "list") := by decide +kernel) (hnm : nm ≠ "__name__" := by decide) (hdb : (nm == ("__debug__" : Str)) = false := by decide) (hdb2 : (x == ("__debug__" : Str)) = false := by decide)
    (he : starEach (e :: es) X.env = (false, eval e X.env) :: starEach es X.env := by rfl) (hpl : (backTo pos (starEach es X.env)).any (·.1) = false := by rfl)
    (he2 : starEach [Expr.Call (.Name x p) (e :: es) [] pos] X.env = (false, eval (Expr.Call (.Name x p) (e :: es) [] pos) X.env) :: starEach [] X.env := by rfl) : PE X (.Call (.Name nm p2) [.Call (.Name x p) (e :: es) [] pos] [] pos2) (tListG (tCallG sp [] E0 t)) := by
  obtain ⟨f, fd, F, hm, hk, hb⟩ := O.ex
  exact pe_listG (pgen_call F (hr.mono (by omega)) hg hm hk hb .nil ha hdb2 he hpl) passL noStop0 hr hgl hmg hv hnm hdb he2
end
section
variable {K : PySem.W.Frag} {g : TG} {tb : TGn} {D : GEnds} {ys : List V} {σ : St} {H : Hp}
theorem gfor_range {lo : Int} {n : Nat} (Pv : Nat → List V → St → Hp → Prop) (h0 : Pv 0 ys σ H) (hs : ∀ i ys σ H, i < n → Pv i ys σ H → g (.int (lo + i)) σ H fun σ2 H2 => tb { D with nx := Pv (i + 1), ct := Pv (i + 1), bk := D.nx } ys σ2 H2) (hd : ∀ ys σ H, Pv n ys σ H → D.nx ys σ H) :
    ∃ W : Nat → Nat → List V → St → Hp → Prop, (∃ m, W 0 m ys σ H) ∧ ∀ i m ys σ H, W i m ys σ H →
      ((Itr lo n).stop i H ∧ D.nx ys σ H) ∨ ((Itr lo n).go i H ∧ ∃ N : List V → St → Hp → Prop, (∀ ys' σ' H', N ys' σ' H' → ∃ m', m' < m ∧ W (i + 1) m' ys' σ' H') ∧ ∀ x H', (Itr lo n).yld i H x H' → g x σ H' fun σ2 H2 => tb { D with nx := N, ct := N, bk := D.nx } ys σ2 H2) := by
  refine ⟨fun i m ys σ H => m = n - i ∧ i ≤ n ∧ Pv i ys σ H, ⟨n - 0, rfl, Nat.zero_le _, h0⟩, ?_⟩
  rintro i m ys σ H ⟨rfl, hi, pv⟩
  by_cases hlt : i < n
  · refine .inr ⟨hlt, Pv (i + 1), fun ys' σ' H' q => ⟨n - (i + 1), by omega, rfl, hlt, q⟩, fun x H' hy => ?_⟩
    obtain ⟨rfl, rfl⟩ := hy
    exact hs i ys σ _ hlt pv
  · have e : i = n := by omega
    subst e
    exact .inl ⟨Nat.le_refl _, hd ys σ H pv⟩
theorem gfor_list {a : Addr} {xs : List V} (Pv : Nat → List V → St → Hp → Prop) (h0 : Pv 0 ys σ H) (hl : ∀ i ys σ H, i ≤ xs.length → Pv i ys σ H → SqL K H a xs) (hs : ∀ i x ys σ H, xs[i]? = some x → Pv i ys σ H → g x σ H fun σ2 H2 => tb { D with nx := Pv (i + 1), ct := Pv (i + 1), bk := D.nx } ys σ2 H2) (hd : ∀ ys σ H, Pv xs.length ys σ H → D.nx ys σ H) :
    ∃ W : Nat → Nat → List V → St → Hp → Prop, (∃ m, W 0 m ys σ H) ∧ ∀ i m ys σ H, W i m ys σ H →
      ((Itl K a).stop i H ∧ D.nx ys σ H) ∨ ((Itl K a).go i H ∧ ∃ N : List V → St → Hp → Prop, (∀ ys' σ' H', N ys' σ' H' → ∃ m', m' < m ∧ W (i + 1) m' ys' σ' H') ∧ ∀ x H', (Itl K a).yld i H x H' → g x σ H' fun σ2 H2 => tb { D with nx := N, ct := N, bk := D.nx } ys σ2 H2) := by
  refine ⟨fun i m ys σ H => m = xs.length - i ∧ i ≤ xs.length ∧ Pv i ys σ H, ⟨xs.length - 0, rfl, Nat.zero_le _, h0⟩, ?_⟩
  rintro i m ys σ H ⟨rfl, hi, pv⟩
  have hq := hl i ys σ H hi pv
  by_cases hlt : i < xs.length
  · have hx : xs[i]? = some xs[i] := List.getElem?_eq_getElem hlt
    refine .inr ⟨⟨xs, xs[i], hq, hx⟩, Pv (i + 1), fun ys' σ' H' q => ⟨xs.length - (i + 1), by omega, rfl, hlt, q⟩, fun x H' hy => ?_⟩
    obtain ⟨rfl, hy⟩ := hy
    exact hs i x ys σ _ (hy xs hq) pv
  · have e : i = xs.length := by omega
    subst e
    exact .inl ⟨⟨xs, hq, Nat.le_refl _⟩, hd ys σ H pv⟩
theorem gfor_tup {a : Addr} {xs : List V} (Pv : Nat → List V → St → Hp → Prop) (h0 : Pv 0 ys σ H) (hl : ∀ i ys σ H, i ≤ xs.length → Pv i ys σ H → SqT K H a xs) (hs : ∀ i x ys σ H, xs[i]? = some x → Pv i ys σ H → g x σ H fun σ2 H2 => tb { D with nx := Pv (i + 1), ct := Pv (i + 1), bk := D.nx } ys σ2 H2) (hd : ∀ ys σ H, Pv xs.length ys σ H → D.nx ys σ H) :
    ∃ W : Nat → Nat → List V → St → Hp → Prop, (∃ m, W 0 m ys σ H) ∧ ∀ i m ys σ H, W i m ys σ H →
      ((Itt K a).stop i H ∧ D.nx ys σ H) ∨ ((Itt K a).go i H ∧ ∃ N : List V → St → Hp → Prop, (∀ ys' σ' H', N ys' σ' H' → ∃ m', m' < m ∧ W (i + 1) m' ys' σ' H') ∧ ∀ x H', (Itt K a).yld i H x H' → g x σ H' fun σ2 H2 => tb { D with nx := N, ct := N, bk := D.nx } ys σ2 H2) := by
  refine ⟨fun i m ys σ H => m = xs.length - i ∧ i ≤ xs.length ∧ Pv i ys σ H, ⟨xs.length - 0, rfl, Nat.zero_le _, h0⟩, ?_⟩
  rintro i m ys σ H ⟨rfl, hi, pv⟩
  have hq := hl i ys σ H hi pv
  by_cases hlt : i < xs.length
  · have hx : xs[i]? = some xs[i] := List.getElem?_eq_getElem hlt
    refine .inr ⟨⟨xs, xs[i], hq, hx⟩, Pv (i + 1), fun ys' σ' H' q => ⟨xs.length - (i + 1), by omega, rfl, hlt, q⟩, fun x H' hy => ?_⟩
    obtain ⟨rfl, hy⟩ := hy
    exact hs i x ys σ _ (hy xs hq) pv
  · have e : i = xs.length := by omega
    subst e
    exact .inl ⟨⟨xs, hq, Nat.le_refl _⟩, hd ys σ H pv⟩
end
end L2

set_option Elab.async false
set_option linter.all false
set_option maxRecDepth 100000
set_option maxHeartbeats 4000000
/-! ==, not in over data, the kit's own part named -/
namespace L2
open PySem PySem.Spec PyProof.Rows
section
variable {X : Cx} {K : PySem.W.Frag}
theorem op_eqDK (h : X.K = K) (hu : X.A.units + 64 < cLine) : OpR X (compareOp .Eq) (rEqD K) := by
  subst h
  exact op_eqD hu
theorem op_neDK (h : X.K = K) (hu : X.A.units + 64 < cLine) : OpR X (compareOp .NotEq) (rNeD K) := by
  subst h
  exact op_neD hu
theorem op_inDK (h : X.K = K) (hu : X.A.units + 65 < cLine) : OpR X (compareOp .In) (rInD K) := by
  subst h
  exact op_inD hu
theorem op_notInDK (h : X.K = K) (hu : X.A.units + 65 < cLine) : OpR X (compareOp .NotIn) (rNotInD K) := by
  subst h
  exact op_notInD hu
end
end L2

set_option Elab.async false
set_option linter.all false
/-! all, any within comprehensions: the kit's own part named -/
namespace L2
open PySem PySem.Spec PyProof.Rows
section
variable {X : Cx} {K : PySem.W.Frag}
theorem cr_allK (h : X.K = K) (hc : X.calm = true) : CallR X (.builtin "all") (rAll K) := by
  subst h
  exact cr_all hc
theorem cr_anyK (h : X.K = K) (hc : X.calm = true) : CallR X (.builtin "any") (rAny K) := by
  subst h
  exact cr_any hc
end
end L2

set_option Elab.async false
set_option linter.all false
set_option maxRecDepth 100000
set_option maxHeartbeats 4000000
/-! own errors with one field whose own base is OverflowError -/
namespace L2
open PySem PySem.Spec PyProof.Rows
open Builtin Builtin.ObjectAttr PySem.W PySem.HandSPX
/-- what stands behind the class itself -/
abbrev ofBack : List Value := [.type "OverflowError", .type "ArithmeticError", .type "Exception", .type "BaseException", .type "object"]
theorem of_calm (self : Value) (C : Addr) : refuseLoop self "__setattr__" (.ref C :: ofBack) = pure () := by
  rw [refuseLoop_ref]
  exact PySem.F.store_OverflowError.passes self
theorem of_has (Y : String) (C : Addr) : (Value.ref C :: ofBack).contains (.type Y) = ofBack.contains (.type Y) := by
  rw [List.contains_cons]
  rfl
section
variable {prog : Program} {w : World} {A : Around} {R : Result → Shared → Prop} {hp : Heap} {g : Array GenState} {d : Drawn} {t : Nat} {os : OsState}
/-- the first field of such an error -/
theorem of_first {K : Frag} {nm : Str} {tk : Tok} {val : Value} {a C : Addr} {parts : Array Value} {cd : ClassData}
    (inK : K.In hp) (at_a : hp.get? a = some { cls := .ref C, data := .fields parts }) (at_C : clsIn K C = some cd) (line : cd.mro = .ref C :: ofBack) (dct : cd.hasDict = true) (free : findIn K (.ref C) nm = some none)
    (goal : ∀ hp2 tk2 dx, (∀ b o, b ≠ a → hp.get? b = some o → hp2.get? b = some o) → hp.objs.size ≤ dx → dx ≠ a → hp2.get? a = some { cls := .ref C, dict := some dx, data := .fields parts } →
      hp2.Ns1 dx (fun y => if y = nm then some val else none) → R (.ok (.ret .none)) ⟨hp2, g, d, tk2, os⟩) :
    codeAny (model prog w) A (.call (.builtin "object.__setattr__") ⟨[.ref a, .str nm tk, val], []⟩) R ⟨hp, g, d, t, os⟩ := by
  have here : InstAt hp a { cls := .ref C, data := .fields parts } C none := ⟨at_a, rfl, rfl, trivial⟩
  have facts := F.store_object
  have full : cd.mro.isEmpty = false := by rw [line]; rfl
  have top : cd.mro.contains (.type "object") = true := by rw [line, of_has]; decide +kernel
  have off : a ≠ hp.objs.size := Nat.ne_of_lt (Heap.lt_size at_a)
  have isObj : Looks (model prog w) hp (isInstance (.ref a) (.type "object")) true :=
    here.type.andThen (looks_mroIn inK (by unfold mroIn; rw [at_C, Option.bind_some, if_neg (by rw [full]; decide), top]))
  refine codeAny_call_builtin facts.slot.plain facts.entry
    (@check_slot (model prog w) _ _ ⟨hp, g, d, t, os⟩ "object.__setattr__" "object" "__setattr__" (.ref a) [.str nm tk, val] [] _ facts.kind facts.split isObj (facts.args (.ref a) (.str nm tk) val) ?_)
  have mroL : Looks (model prog w) hp (mroOf (.ref C)) cd.mro := (looks_clsIn inK at_C).andThen .now
  have taker : Looks (model prog w) hp (storeTaker? none) none := .now
  have data : Looks (model prog w) hp (classData C) cd := looks_clsIn inK at_C
  rw [osa_eq, refuse_eq]
  refine wpAny_bind (wpAny_bind (here.type.at (wpAny_bind (mroL.at ?_))))
  rw [line, of_calm]
  refine wpAny_pure (wpAny_bind (here.type.at (wpAny_bind ((looks_findIn inK free).at (wpAny_bind (taker.at ?_))))))
  show wpAny _ _ (storeInOwnDict (.ref a) (.ref C) (.str nm tk) nm val false) _ _ _
  obtain ⟨c1, c2, c3, c4, c5, c6, c7, c8, c9, c10, c11⟩ := cd
  dsimp only at dct
  subst dct
  unfold storeInOwnDict ownDictForStores
  repeat (first | with_reducible refine store_in_new ?_ ?_ | with_reducible refine wpAny_loadPart_at at_a ?_ | with_reducible refine data.at ?_ | wp_step)
  · exact ⟨_, #[], _, (Heap.get?_update_ne _ _ _ _ off.symm).trans (Heap.get?_push_at rfl rfl), rfl, fun e he => absurd he (by simp), fun _ => rfl⟩
  · intro hp2 tk2 ns2 same
    have at_a2 : (hp.push { cls := .type "dict", data := .dict #[] }).get? a = some { cls := .ref C, data := .fields parts } := Heap.get?_push_of_some _ at_a
    refine goal hp2 tk2 hp.objs.size (fun b o hb ho => ?_) (Nat.le_refl _) off.symm ?_ ns2
    · exact (same.2 b (Nat.ne_of_lt (Heap.lt_size ho))).trans ((Heap.get?_update_ne _ _ _ _ hb).trans (Heap.get?_push_of_some _ ho))
    · exact (same.2 a off).trans (Heap.get?_update_self _ at_a2 rfl)
end
/-- what the top has of such a class -/
structure OofC (K : PySem.W.Frag) (C : Addr) : Prop where
  cls : ∃ nm q N bs sn sub ab col dd k0 k1 k2 k3 k5, K.lookup C = some (excClassObj nm q C N bs ofBack true sn sub ab col dd k0 k1 k2 k3 k5 "OverflowError.__new__")
  sa : findIn K (.ref C) "__setattr__" = some (some (.builtin "object.__setattr__"))
  exC : subIn K (.ref C) (.type "BaseException") = some true
  tyC : typeIn K (.ref C) = some (.type "type")
  kC : keepIn K (.ref C) = true
section
variable {X : Cx} {pins : List (Addr × Obj)} {σ : St} {H : Hp} {s : Shared} {a C : Addr} {f : Str} {y : V} {u : Value} {Q : Unit → Shared → Prop} {E : Value → Shared → Prop} {A : Around}
theorem of_store (T : OofC X.K C) (I : Inv X pins σ H s) (e : H a = some (exo a C none)) (free : findIn X.K (.ref C) f = some none) (ry : RelV y u)
    (goal : ∀ dx s', H dx = none → dx ≠ a → Inv X pins σ (upd (upd H dx (exd dx [(f, y)])) a (exo a C (some dx))) s' → Q () s') : wpAny (model X.prog X.w) A (setAttr (.ref a) f u) Q E s := by
  obtain ⟨nm, q, N, bs, sn, sub, ab, col, dd, k0, k1, k2, k3, k5, at_C⟩ := T.cls
  have data : clsIn X.K C = some { name := nm, bases := bs, mro := .ref C :: ofBack, ns := N, qualname := q, hasDict := true, slotNames := sn, subclasses := sub, abstract := ab, collection := col, hasDel := false } := by
    unfold clsIn
    rw [at_C] <;> rfl
  obtain ⟨t1, ho⟩ := exo_at I.hok e
  obtain ⟨hp, g, d, t, os⟩ := s
  refine set_plain I.kIn (ox := { cls := .ref C, dict := none, data := .fields #[.ref t1, .none, .none, .none, .bool false, .none] }) (od := none) ⟨ho, rfl, rfl, trivial⟩ T.sa ?_
  refine of_first I.kIn ho data rfl rfl free fun hp2 tk2 dx k far ne at_a ns2 => ?_
  have none_dx : H dx = none := I.hok.fresh far
  have old : ∀ {b : Addr} {o : Obj}, hp.get? b = some o → b ≠ dx := fun {b o} z => Nat.ne_of_lt (Nat.lt_of_lt_of_le (Heap.lt_size z) far)
  have other : ∀ {b : Addr}, H b = none → b ≠ a := fun {b} z w => by
    rw [w, e] at z
    cases z
  have U : Un X.fs [] H (upd (upd H dx (exd dx [(f, y)])) a (exo a C (some dx))) hp hp2 :=
    ⟨fun b o z n _ _ => k b o (other n) z, fun b o z n _ _ => ⟨o.slots, k b o (other n) z⟩, fun b o z n _ => by rw [upd_ne (other n), upd_ne (old z)]; exact n,
      fun b o z _ => by
        by_cases hb : b = a
        · rw [hb]
          exact ⟨_, at_a⟩
        · exact ⟨o, k b o hb z⟩,
      fun b xs z => by rw [upd_ne (at_ne e z exo_tup), upd_ne (ne_of_none z none_dx)]; exact z,
      fun b o v z => by rw [upd_ne (at_ne e z exo_frz), upd_ne (ne_of_none z none_dx)]; exact z,
      fun b ps z => ⟨#[], by rw [upd_ne (at_ne e z exo_tbl), upd_ne (ne_of_none z none_dx), z]; simp⟩⟩
  refine goal dx _ none_dx ne (I.un (t' := tk2) U fun b o z => ?_)
  by_cases hb : b = a
  · subst hb
    rw [upd_same] at z
    cases z
    exact exo_ok at_a
  · rw [upd_ne hb] at z
    by_cases hd : b = dx
    · subst hd
      rw [upd_same] at z
      cases z
      exact exd_ok ns2 (relO_put (fs := []) ry fun _ => True.intro)
    · rw [upd_ne hd] at z
      refine (I.hok b o z).stay (fun c v hc w => k c v ?_ w) (fun c hc => ?_) fun c xs hc => ?_
      · rcases hc with hc | hc
        · rw [hc]
          exact hb
        · exact at_ne e hc exo_own
      · rw [upd_ne (at_ne e hc exo_own), upd_ne (ne_of_none hc none_dx)]
        exact hc
      · rw [upd_ne (at_ne e hc exo_tup), upd_ne (ne_of_none hc none_dx)]
        exact hc
end
/-- self.f = e, the one field -/
def tOstO (K : PySem.W.Frag) (f : Str) (to te : TE) : TS := fun D σ H => te σ H fun y H1 => to σ H1 fun x H2 => ∃ a C : Addr, x = .ref a ∧ OofC K C ∧ findIn K (.ref C) f = some none ∧
  H2 a = some (exo a C none) ∧ ∀ dx, H2 dx = none → dx ≠ a → D.nx σ (upd (upd H2 dx (exd dx [(f, y)])) a (exo a C (some dx)))
section
variable {X : Cx} {o e : Expr} {es : List Expr} {to te : TE} {ta : TA} {f : Str} {p p' pos : Pos}
theorem ps_ostO (ho : PE X o to) (he : PE X e te) (hs : swapsWith e (some (.Attribute o f p')) pos.line X.env = pure false := by rfl) : PS X (.Assign [.Attribute o f p'] e pos) (tOstO X.K f to te) := by
  refine ⟨fun pins s σ H D I h => ?_⟩
  refine plainObj_wpAny_Assign_Attribute (thn (he.run pins s σ H _ I h) fun v s1 ⟨y, H1, I1, r1, q1⟩ => thn (ho.run pins s1 σ H1 _ I1 q1) fun u s2 ⟨x, H2, I2, r2, a, C, ex, T, free, ea, q⟩ => ?_) hs
  subst ex
  obtain rfl : u = Value.ref a := r2
  exact of_store T I2 ea free r1 fun dx s' n ne J => ⟨σ, _, J, q dx n ne⟩
/-- C(e, ..) of such a class -/
theorem pmk_oof {CX : CXT} {x : Str} {C fI : Addr} {k : Nat} {fd : FuncData} {ps : List Str} {sp : Sp} {ds : List Value} {dvs : List V} (T : OofC X.K C) (hasI : findIn X.K (.ref C) "__init__" = some (some (.ref fI))) (isF : typeIn X.K (.ref fI) = some (.type "function"))
    (G : FnOk X.prog X.w X.K X.mg X.base CX k fI fd ps sp) (room : Room (k + 1) X.A) (bind : Binds X.K fd ps ds) (dflt : Vals dvs ds) (pass : Passes CX X (fun _ _ _ => False)) (hg : Gl X x) (hm : X.mg x = some (.ref C)) (ha : PA X (e :: es) ta)
    (hdb : (x == ("__debug__" : Str)) = false := by decide) (he : starEach (e :: es) X.env = (false, eval e X.env) :: starEach es X.env := by rfl) (hpl : (backTo pos (starEach es X.env)).any (·.1) = false := by rfl) :
    PMk X (.Call (.Name x p) (e :: es) [] pos) (tMkO C sp dvs ta) := by
  intro pins s σ H Q I h
  obtain ⟨nm, q, N, bs, sn, sub, ab, col, dd, k0, k1, k2, k3, k5, at_C⟩ := T.cls
  refine wpAny_Call_Name_kw (ld_glob I hg hm ?_ hdb)
  refine callWith_K (h₀ := X.base) I.ok.mod.kin T.kC (thn (ha.run pos pins s σ H _ I h) fun us s1 ⟨vs, H1, I1, r1, hz, q1⟩ => ⟨I1.kIn, ?_⟩) he hpl
  show wpAny _ _ (call (.ref C) us) _ _ _
  obtain ⟨hp, g, dr, tk, os⟩ := s1
  have up1 : hp.objs.size ≤ hp.objs.size + 1 := Nat.le_succ _
  have free1 : H1 (hp.objs.size + 1) = none := I1.hok.fresh up1
  have want := q1 (hp.objs.size + 1) free1
  have kk : ∀ b o, hp.get? b = some o → ((hp.push (kdv_tup us)).push (excO C hp.objs.size)).get? b = some o := fun b o z => Heap.get?_push_of_some _ (Heap.get?_push_of_some _ z)
  have there : ((hp.push (kdv_tup us)).push (excO C hp.objs.size)).get? (hp.objs.size + 1) = some (excO C hp.objs.size) := by heap_get
  have I2 : Inv X pins σ (upd H1 (hp.objs.size + 1) (exo (hp.objs.size + 1) C none)) ⟨(hp.push (kdv_tup us)).push (excO C hp.objs.size), g, dr, tk, os⟩ :=
    I1.laid (t' := tk) (a := hp.objs.size + 1) (o := exo (hp.objs.size + 1) C none) (h' := (hp.push (kdv_tup us)).push (excO C hp.objs.size)) kk up1 (exo_ok there)
  have r2 : Vals (V.ref (hp.objs.size + 1) :: (vs ++ dvs)) (Value.ref (hp.objs.size + 1) :: (us ++ ds)) := .cons rfl (r1.append dflt)
  have many : (Value.ref (hp.objs.size + 1) :: us ++ ds).length = ps.length := by
    have z := r2.length
    rw [G.len _ _ _ _ want] at z
    exact z.symm
  have small : us.length ≤ sizeLine := by
    rw [← Paired.length r1, sizeLine_eq]
    omega
  refine wpAny_call (call_own F.excBase_OverflowError (fun Y => rfl) (I1.kIn _ _ at_C) (looks_findIn I1.kIn hasI) (fun self => bind_fn I1.kIn self isF) small
    (codeAny_mono (G.run _ X.stack _ _ ⟨Value.ref (hp.objs.size + 1) :: us, []⟩ (Value.ref (hp.objs.size + 1) :: (us ++ ds)) _ _ (fun _ _ _ => False) (room.make C us []) (I2.env0.make C us []) (bind _ (Value.ref (hp.objs.size + 1) :: us) I2.kIn many) r2 want) fun r s' hq' => ?_))
  cases r with
  | error er => exact pass pins σ _ _ er s' I2 hq'
  | ok fl =>
    cases fl with
    | ret u =>
      obtain ⟨v, H2, os2, bare2, un2, hok2, rv, ev, dd, fs, ea, ed, hd1, q2⟩ := hq'
      subst ev
      obtain ⟨h2, g2, d2, t2, os'⟩ := s'
      exact ⟨rv, mk_end (raises_own T.exC T.tyC) I1 up1 kk un2 hok2 os2 bare2 ea ed hd1 q2⟩
    | next => exact False.elim hq'
    | brk => exact False.elim hq'
    | cont => exact False.elim hq'
end
/-- all that is asked of the class x of such errors at C, whose field is f -/
structure OCls (P : Program) (w : World) (K : PySem.W.Frag) (mg : Str → Option Value) (base : Heap) (x f : Str) (C : Addr) : Prop where
  ox : OofC K C
  gC : mg x = some (.ref C)
  noA : findIn K (.ref C) f = some none
  ec : ExcC K C
  ini : ∃ (fI : Addr) (fd : FuncData), findIn K (.ref C) "__init__" = some (some (.ref fI)) ∧ typeIn K (.ref fI) = some (.type "function") ∧ FnOk P w K mg base CX0 1 fI fd ["self", f] (spXI C f) ∧ Binds K fd ["self", f] []
theorem OCls.xf {P : Program} {w : World} {K : PySem.W.Frag} {mg : Str → Option Value} {base : Heap} {x f : Str} {C : Addr} (T : OCls P w K mg base x f C) : XfC K C := ⟨T.ec.hg, T.ec.hk, T.ec.hs, T.ec.hd⟩
theorem pmk_O {X : Cx} {C : Addr} {x f : Str} {e : Expr} {te : TE} {p pos : Pos} (T : OCls X.prog X.w X.K X.mg X.base x f C) (room : Room 2 X.A) (he : PE X e te) (hg : Gl X x) (hdb : (x == ("__debug__" : Str)) = false := by decide)
    (hs : starEach [e] X.env = (false, eval e X.env) :: starEach [] X.env := by rfl) (hpl : (backTo pos (starEach [] X.env)).any (·.1) = false := by rfl) :
    PMk X (.Call (.Name x p) [e] [] pos) (tMkO C (spXI C f) [] (tCons te tNil)) := by
  obtain ⟨fI, fd, i1, i2, G, b⟩ := T.ini
  exact pmk_oof (dvs := []) (ds := []) T.ox i1 i2 G room b .nil pass0 hg T.gC (pa_cons he pa_nil hs) hdb hs hpl
/-- what the top has written of it -/
structure XOt (K : PySem.W.Frag) (mg : Str → Option Value) (x f : Str) (C : Addr) (st : Stmt) (qual : Str) : Prop where
  ox : OofC K C
  gC : mg x = some (.ref C)
  noA : findIn K (.ref C) f = some none
  ec : ExcC K C
  tI : ∃ fI, findIn K (.ref C) "__init__" = some (some (.ref fI)) ∧ typeIn K (.ref fI) = some (.type "function") ∧ ∃ fd, Fun K "__init__" qual st fI fd ∧ Binds K fd ["self", f] []
theorem XOt.cls {P : Program} {w : World} {K : PySem.W.Frag} {mg : Str → Option Value} {base : Heap} {x f : Str} {C : Addr} {st : Stmt} {qual : Str} (T : XOt K mg x f C st qual) (h : ∀ fI fd, Fun K "__init__" qual st fI fd → FnOk P w K mg base CX0 1 fI fd ["self", f] (spXI C f)) :
    OCls P w K mg base x f C := by
  obtain ⟨fI, i1, i2, fd, G, b⟩ := T.tI
  exact ⟨T.ox, T.gC, T.noA, T.ec, fI, fd, i1, i2, h fI fd G, b⟩
end L2

set_option Elab.async false
set_option linter.all false
set_option maxRecDepth 100000
/-! the bookkeeping of a walk over a list, whatever a turn's reading is -/
namespace L2
open PySem PySem.Spec PyProof.Rows
theorem steps_list {K : PySem.W.Frag} {a : Addr} {xs : List V} {H0 : Hp} {Qd : Hp → Prop} {step : V → Hp → (Hp → Prop) → Prop} (Pv : Nat → Hp → Prop) (h0 : Pv 0 H0) (hl : ∀ i H, i ≤ xs.length → Pv i H → SqL K H a xs)
    (hs : ∀ i x H, xs[i]? = some x → Pv i H → step x H (Pv (i + 1))) (hd : ∀ H, Pv xs.length H → Qd H) :
    ∃ W : Nat → Nat → Hp → Prop, (∃ m, W 0 m H0) ∧ ∀ i m H, W i m H →
      ((Itl K a).stop i H ∧ Qd H) ∨ ((Itl K a).go i H ∧ ∃ N : Hp → Prop, (∀ H', N H' → ∃ m', m' < m ∧ W (i + 1) m' H') ∧ ∀ x H', (Itl K a).yld i H x H' → step x H' N) := by
  refine ⟨fun i m H => m + i = xs.length ∧ Pv i H, ⟨xs.length, rfl, h0⟩, ?_⟩
  rintro i m H ⟨hm, pv⟩
  have q := hl i H (by omega) pv
  rcases Nat.lt_or_ge i xs.length with h | h
  · have hx : xs[i]? = some xs[i] := List.getElem?_eq_getElem h
    refine .inr ⟨⟨xs, xs[i], q, hx⟩, Pv (i + 1), fun H' pv' => ⟨m - 1, by omega, by omega, pv'⟩, fun x H' y => ?_⟩
    obtain ⟨y1, y2⟩ := y
    subst y1
    exact hs i x _ (y2 xs q) pv
  · obtain rfl : i = xs.length := by omega
    exact .inl ⟨⟨xs, q, Nat.le_refl _⟩, hd H pv⟩
def rLenK (K : PySem.W.Frag) : List V → Hp → VK → Prop := fun xs H Q => ∃ p ys, xs = [.ref p] ∧ (SqL K H p ys ∨ SqT K H p ys) ∧ Q (.int ys.length) H
theorem call_len_seqK {X : Cx} {K : PySem.W.Frag} (h : X.K = K) : CallR X (.builtin "len") (rLenK K) := by
  subst h
  exact call_len_seq
end L2

set_option Elab.async false
set_option linter.all false
set_option maxRecDepth 100000
set_option maxHeartbeats 4000000
/-! list(f(..)) of a generator def that may raise, in a try -/
namespace L2
open PySem PySem.Spec PyProof.Rows GenW
def tListGS (tg : XK → TGen) (E : St → XK) : TE := fun σ H Q => tg (E σ) σ H fun out H2 => ∀ p, H2 p = none → Q (.ref p) (upd H2 p (.lst out))
section
variable {X : Cx} {k : Nat} {p p2 pos pos2 : Pos} {e : Expr} {x nm : Str} {es : List Expr}
theorem pe_listGS {tg : XK → TGen} {E : St → XK} (made : ∀ E, PGen X k e (tg E) E) (pass : ∀ σ, PassesAt (CX X.prog X.w) X σ (E σ)) (nostop : ∀ σ, NoStop X.K (E σ)) (room : Room (k + 3) X.A) (hg : Gl X nm) (hmg : X.mg nm = none) (hv : bootBuiltins nm = some (.type "list"))
    (hnm : nm ≠ "__name__" := by decide) (hdb : (nm == ("__debug__" : Str)) = false := by decide) (he : starEach [e] X.env = (false, eval e X.env) :: starEach [] X.env := by rfl) : PE X (.Call (.Name nm p) [e] [] pos) (tListGS tg E) := by
  refine ⟨fun pins st σ H Q I want => ?_⟩
  refine wpAny_Call_Name_kw (ld_blt I hg hmg hv ?_ hnm hdb)
  refine PyProof.Rows.callWith_type1 ?_ he rfl
  rw [he]
  show wpAny _ _ (spliced ((false, eval e X.env) :: backTo pos (starEach [] X.env))) _ _ st
  refine Calls.spliced_cons (thn ((made (E σ)).run pins st σ H _ I want) fun u st1 ⟨H1, sc, ex, I1, exOk, gen⟩ => ?_)
  refine Calls.spliced_nil ?_
  have grown : sc.heap.objs.size ≤ st1.heap.objs.size := by
    obtain ⟨a, g, c, _, g1, g2, _⟩ := gen
    exact Nat.le_trans g1 (Nat.le_of_lt g2)
  refine call_list_new room I1.ok.frames gen (fun S st2 acc c H' ys a0 a1 a2 a3 a4 a5 a6 a7 a8 a9 => ?_) fun er st2 g left => ?_
  · exact ⟨.ref S, upd H' S (.lst ys), I1.drained (Nat.le_trans grown a0) a3 a1 a2 exOk a4 a5 a6 a7 a8, rfl, a9 S a8⟩
  · have kin : X.K.In st2.heap := by
      obtain ⟨a, B, H', cls, d, _, fl, _, ub, _⟩ := id left
      refine I1.ok.mod.kin.keeps fun b o eb => fl.1 b o (ub.keep b o (I1.bs b o eb).1 (I1.bs b o eb).2 fun hm => ?_)
      rcases List.mem_cons.mp (I1.stkSub b hm) with z | z
      · have z1 := Heap.lt_size eb
        have z2 := Nat.le_trans I1.ok.bsz I1.ok.above
        rw [z] at z1
        exact absurd (Nat.lt_of_lt_of_le z1 z2) (Nat.lt_irrefl _)
      · exact I1.ok.nofr eb z
    refine ⟨notStop_of (nostop σ) kin left, pass σ pins H1 sc er _ I1 ?_⟩
    obtain ⟨a, B, H', cls, d, z1, fl, z2, ub, z3, z4, z5, z6⟩ := left
    exact ⟨a, B, H', cls, d, z1, fl, z2, ub, z3, z4, allBare_setGen z5 rfl, z6⟩
/-- what is wished for, of errors that are no StopIteration -/
def noStopW (K : PySem.W.Frag) (W : WX) : WX := fun cls d σ H => PySem.W.subIn K cls (.type "StopIteration") = some false ∧ W cls d σ H
theorem pe_listOwnGS {ps : List Str} {sp : SpG} {t : TA} {W : WX} (O : OwnG X.prog X.w X.K X.mg X.base x k ps sp) (room : Room (k + 3) X.A) (tk : Takes X W) (ha : PA X (e :: es) t) (hmg : X.mg nm = none) (hgl : Gl X nm := by rfl) (hg : Gl X x := by rfl) (hv : bootBuiltins nm = some (.type "list") := by decide +kernel)
    (hnm : nm ≠ "__name__" := by decide) (hdb : (nm == ("__debug__" : Str)) = false := by decide) (hdb2 : (x == ("__debug__" : Str)) = false := by decide)
    (he : starEach (e :: es) X.env = (false, eval e X.env) :: starEach es X.env := by rfl) (hpl : (backTo pos (starEach es X.env)).any (·.1) = false := by rfl)
    (he2 : starEach [Expr.Call (.Name x p) (e :: es) [] pos] X.env = (false, eval (Expr.Call (.Name x p) (e :: es) [] pos) X.env) :: starEach [] X.env := by rfl) :
    PE X (.Call (.Name nm p2) [.Call (.Name x p) (e :: es) [] pos] [] pos2) (tListGS (fun E => tCallG sp [] E t) (WE (noStopW X.K W))) := by
  obtain ⟨f, fd, F, hm, hk, hb⟩ := O.ex
  exact pe_listGS (fun E => pgen_call (E := E) F (room.mono (by omega)) hg hm hk hb .nil ha hdb2 he hpl) (fun σ => passAt (tk.imp fun _ _ _ _ h => h.2) σ) (fun σ cls d H h => h.1) room hgl hmg hv hnm hdb he2
theorem pe_listOwnGSK {K : PySem.W.Frag} {ps : List Str} {sp : SpG} {t : TA} {W : WX} (hK : X.K = K) (O : OwnG X.prog X.w X.K X.mg X.base x k ps sp) (room : Room (k + 3) X.A) (tk : Takes X W) (ha : PA X (e :: es) t) (hmg : X.mg nm = none) (hgl : Gl X nm := by rfl) (hg : Gl X x := by rfl) (hv : bootBuiltins nm = some (.type "list") := by decide +kernel)
    (hnm : nm ≠ "__name__" := by decide) (hdb : (nm == ("__debug__" : Str)) = false := by decide) (hdb2 : (x == ("__debug__" : Str)) = false := by decide)
    (he : starEach (e :: es) X.env = (false, eval e X.env) :: starEach es X.env := by rfl) (hpl : (backTo pos (starEach es X.env)).any (·.1) = false := by rfl)
    (he2 : starEach [Expr.Call (.Name x p) (e :: es) [] pos] X.env = (false, eval (Expr.Call (.Name x p) (e :: es) [] pos) X.env) :: starEach [] X.env := by rfl) :
    PE X (.Call (.Name nm p2) [.Call (.Name x p) (e :: es) [] pos] [] pos2) (tListGS (fun E => tCallG sp [] E t) (WE (noStopW K W))) := by
  subst hK
  exact pe_listOwnGS O room tk ha hmg hgl hg hv hnm hdb hdb2 he hpl he2
end
section
variable {X : Cx} {K : PySem.W.Frag}
theorem op_ltTK (h : X.K = K) (hu : X.A.units < cLine) : OpR X (compareOp .Lt) (rLtT K) := by
  subst h
  exact op_ltT hu
end
end L2

set_option Elab.async false
set_option linter.all false
set_option maxRecDepth 100000
set_option maxHeartbeats 4000000
/-! set(list of ints) as a value; a tuple read backwards -/
namespace L2
open PySem PySem.Spec PyProof.Rows
section
variable {P : Program} {w : World} {A : Around} {E : Value → Shared → Prop} {s : Shared}
/-- the object that set(..) begins with -/
abbrev bareSet (w : World) : Obj := { cls := .type "set", dict := none, data := .set #[] 0 (.fresh 0 0 (!w.params.followText "set-order")) }
theorem set_of_list {l : Addr} {items : Array Value} (ns : List Int) {Q : Value → Shared → Prop} (calm : A.handled = none) (isL : s.heap.IsList l items) (areI : IntsAre items.toList ns) (few : ns.length + 1 < scanBound)
    (goal : ∀ (hp : Heap) (tk c : Nat), SetR w hp s.heap.objs.size (fun j => decide (j ∈ ns)) c → c ≤ ns.length → (∀ b o, s.heap.get? b = some o → hp.get? b = some o) → Q (.ref s.heap.objs.size) { s with heap := hp, toks := tk }) :
    wpAny (model P w) A (call (.type "set") [.ref l]) Q E s := by
  have same : items.size = ns.length := by
    have z := IntsAre.length areI
    rw [Array.length_toList] at z
    exact z
  obtain ⟨c, tl, mroS⟩ := F.called_set.mro
  have madeS := F.called_set.made
  have subS := F.called_set.sub
  refine wpAny_call (codeAny_of_tree ?_)
  show wpAny _ _ (callAny (.type "set") _) _ _ _
  refine wpAny_pure ⟨Code.quiet_builtin _ (by decide +kernel), codeAny_builtin F.entry_type_call ?_⟩
  rw [Around.under_plain (weight_type_call_type "set" [.ref l] []) rfl]
  have noT := F.called_set.notType
  have canC := F.called_set.canCreate
  have tcs := F.typeCall_set_1 (.ref l)
  repeat (any_goals (first | assumption | wp_step))
  refine codeAny_mono (code_set_led1 (.ref l) (E := E) (Q₁ := fun v st => v = .ref s.heap.objs.size ∧ st = { s with heap := s.heap.push (bareSet w) }) ⟨rfl, rfl⟩) fun r st back => ?_
  cases r with
  | error e => exact back
  | ok fl =>
    cases fl with
    | next => exact back.elim
    | brk => exact back.elim
    | cont => exact back.elim
    | ret v =>
      obtain ⟨rfl, rfl⟩ := back
      have atS : (s.heap.push (bareSet w)).get? s.heap.objs.size = some (bareSet w) := Heap.get?_push_size _ rfl
      have tyS : Shared.TypeIs { s with heap := s.heap.push (bareSet w) } (.ref s.heap.objs.size) "set" := ⟨_, atS, rfl⟩
      have iniL := F.called_set.init.lookup
      have iniB := F.called_set.init.bind (.ref s.heap.objs.size)
      repeat (any_goals (first | assumption | wp_step))
      refine codeAny_mono (codeAny_call_builtin (R := wants (fun r st2 => r = .none ∧ ∃ hp tk c, st2 = { s with heap := hp, toks := tk } ∧ SetR w hp s.heap.objs.size (fun j => decide (j ∈ ns)) c ∧ c ≤ ns.length ∧
        (∀ b o, s.heap.get? b = some o → hp.get? b = some o)) E) F.called_set.init.plain F.entry_set_init (check_set_init_1 tyS ?_)) fun r2 st2 back2 => ?_
      · obtain ⟨ol, atL, clL, nl, daL⟩ := isL
        obtain ⟨o1, o2, o3, o4⟩ := ol
        simp only at clL daL
        subst clL; subst daL
        have atL2 : (s.heap.push (bareSet w)).get? l = some { cls := .type "list", dict := o2, data := .seq items nl, slots := o4 } := Heap.get?_push_of_some _ atL
        have sub1 := F.sub_list_set
        have sub2 := F.sub_list_frozenset
        have ne1 : (Value.type "list" == Value.type "dict") = false := by decide
        have isL2 : (s.heap.push (bareSet w)).IsList l items := ⟨_, atL2, rfl, nl, rfl⟩
        unfold Builtin.«set.__init__» noKeywords Builtin.Frozenset.updateFrom
        generalize hold : pyIter = PI
        wp_walk
        subst hold
        refine wpAny_pyIter_list isL2 ?_
        refine wpAny_bind (wpAny_runValue ?_)
        have below : l < s.heap.objs.size := Heap.lt_size atL
        have calm3 : A.in1.in1.in1.handled = none := by simp [calm]
        have apart : l ≠ (s.heap.push (bareSet w)).objs.size := by
          rw [Heap.size_push]
          exact Nat.ne_of_lt (Nat.lt_succ_of_lt below)
        have outside : s.heap.objs.size ∉ [(s.heap.push (bareSet w)).objs.size, l] := by
          rw [Heap.size_push]
          simp only [List.mem_cons, List.mem_singleton, List.not_mem_nil, or_false, not_or]
          exact ⟨Nat.ne_of_lt (Nat.lt_succ_self _), Nat.ne_of_gt below⟩
        have each : ∀ (i : Nat) (v : Value), items[i]? = some v → ∃ k t, ns[i]? = some k ∧ v = .int k t := fun i v hv => by
          have hi : i < ns.length := by rw [← same]; exact (Array.getElem?_eq_some_iff.mp hv).1
          obtain ⟨t, e⟩ := PyProof.Rows.IntsAre.int_at areI i v (by rw [Array.getElem?_toList]; exact hv)
          refine ⟨ns[i], t, List.getElem?_eq_getElem hi, ?_⟩
          rw [e, List.getD_eq_getElem?_getD, List.getElem?_eq_getElem hi] <;> rfl
        refine set_update_ints ((Walks.list calm3 _ l apart items).toS) s.heap.objs.size outside ns same few each (items.size - 0) 0 _ (by omega) (Nat.zero_le _) ⟨⟨_, Heap.get?_push_size _ rfl, rfl, rfl⟩, (isL2.push _)⟩ ?begin ?done
        case begin => exact ⟨0, Nat.le_refl 0, setR_new_at (Heap.get?_push_of_some _ atS)⟩
        case done =>
          intro st3 c3 mv lec isS
          obtain ⟨hp, g3, d3, tk, os3⟩ := st3
          have eg : g3 = s.gens := mv.gens
          have ed : d3 = s.drawn := mv.drawn
          have eo : os3 = s.os := mv.os
          subst eg; subst ed; subst eo
          show wpAny _ _ _ _ _ _
          refine wpAny_pure ?_
          show wpAny _ _ (ret Value.none) _ _ _
          rw [same] at lec
          refine wpAny_pure ⟨rfl, hp, tk, c3, rfl, isS, lec, fun b o e => ?_⟩
          have b0 : b < s.heap.objs.size := Heap.lt_size e
          have b2 : b ≠ (s.heap.push (bareSet w)).objs.size := by
            rw [Heap.size_push]
            exact Nat.ne_of_lt (Nat.lt_succ_of_lt b0)
          exact mv.heap b o (by simp only [List.mem_cons, List.mem_singleton, List.not_mem_nil, or_false, not_or]; exact ⟨Nat.ne_of_lt b0, b2⟩) (Heap.get?_push_of_some _ (Heap.get?_push_of_some _ e))
      · cases r2 with
        | error e => exact back2
        | ok fl2 =>
          cases fl2 with
          | next => exact back2.elim
          | brk => exact back2.elim
          | cont => exact back2.elim
          | ret r =>
            obtain ⟨rfl, hp, tk, c3, rfl, isS, lec, keep⟩ := back2
            repeat (any_goals (first | assumption | wp_step))
            exact goal _ _ _ isS lec keep
end
def rSetLI (K : PySem.W.Frag) (w : World) : List V → Hp → VK → Prop := fun xs H Q => ∃ (l : Addr) (ns : List Int), xs = [.ref l] ∧ SqL K H l (ns.map V.int) ∧ ns.length ≤ 60 ∧ ∀ p c, H p = none → c ≤ ns.length → Q (.ref p) (upd H p (SetO w p (fun j => decide (j ∈ ns)) c))
theorem cr_setLI {X : Cx} (hc : X.calm = true) : CallR X (.type "set") (rSetLI X.K X.w) := by
  intro pins s σ H xs us Q I r h
  obtain ⟨l, ns, rfl, hq, small, q⟩ := h
  obtain ⟨u, rfl, rx⟩ := vals1 r
  cases rx
  obtain ⟨its, r2, pl, _⟩ := I.list hq
  refine set_of_list ns (I.ok.hd hc) pl.isList (by simpa using intsAre_of r2) (by unfold scanBound; omega) fun hp tk c isS lec keep => ?_
  exact ⟨.ref s.heap.objs.size, _, I.laid (t' := tk) keep (Nat.le_refl _) (setO_new isS), rfl, q _ c (I.hok.fresh (Nat.le_refl _)) lec⟩
end L2

set_option Elab.async false
set_option linter.all false
set_option maxRecDepth 100000
set_option maxHeartbeats 4000000
namespace L2
open PySem PySem.Spec PyProof.Rows
theorem back_places (n : Nat) : Builtin.Slice.slicePlaces ((n : Int) - 1) (-1) (-1) = n := by
  unfold Builtin.Slice.slicePlaces
  rw [if_neg (by omega)]
  by_cases h : ((n : Int) - 1) > -1
  · rw [if_pos h]
    have : ((n : Int) - 1 - -1 - 1) / (- -1) + 1 = (n : Int) := by
      rw [Int.neg_neg, Int.ediv_one]
      omega
    rw [this]
    exact Int.toNat_natCast n
  · rw [if_neg h]
    have : n = 0 := by omega
    rw [this]
    rfl
theorem back_pick (xs : Array Value) : ((List.range xs.size).filterMap fun (m : Nat) => xs[(((xs.size : Int) - 1) + (m : Int) * (-1)).toNat]?).toArray = xs.toList.reverse.toArray := by
  congr 1
  refine List.ext_getElem? fun i => ?_
  have hall : ∀ k, k ≤ xs.size → (List.range k).filterMap (fun (m : Nat) => xs[(((xs.size : Int) - 1) + (m : Int) * (-1)).toNat]?) = xs.toList.reverse.take k := fun k => by
    induction k with
    | zero => intro _; rfl
    | succ k ih =>
      intro hk
      rw [List.range_succ, List.filterMap_append, ih (by omega), List.take_add_one]
      congr 1
      have hi : (((xs.size : Int) - 1) + (k : Int) * (-1)).toNat = xs.size - 1 - k := by omega
      have hlt : xs.size - 1 - k < xs.size := by omega
      have hr : xs.toList.reverse[k]? = some xs[xs.size - 1 - k] := by
        rw [List.getElem?_reverse (by rw [Array.length_toList]; omega), Array.length_toList, Array.getElem?_toList]
        exact Array.getElem?_eq_getElem hlt
      rw [hr, List.filterMap_cons, hi, Array.getElem?_eq_getElem hlt]
      rfl
  rw [hall xs.size (Nat.le_refl _), List.take_of_length_le (by rw [List.length_reverse, Array.length_toList]; exact Nat.le_refl _)]
section
variable {prog : Program} {w : World} {A : Around} {E : Value → Shared → Prop} {s : Shared}
theorem slice_back {sl : Addr} {v1 v2 v3 : Value} {n : Nat} {Q : Int × Int × Nat → Shared → Prop} (isS : s.heap.IsSliceOf sl v1 v2 v3) (p1 : IsPart v1 none) (p2 : IsPart v2 none) (p3 : IsPart v3 (some (-1))) (goal : Q ((n : Int) - 1, -1, n) s) :
    wpAny (model prog w) A (Builtin.Slice.sliceApplied (.ref sl) (pure (n : Int))) Q E s := by
  obtain ⟨os, atS, clS, daS⟩ := id isS
  unfold Builtin.Slice.sliceApplied Builtin.Slice.sliceFields
  refine wpAny_bind (wpAny_bind (wpAny_field atS daS (x := v1) rfl (wpAny_bind (wpAny_field atS daS (x := v2) rfl (wpAny_bind (wpAny_field atS daS (x := v3) rfl (wpAny_pure ?_)))))))
  refine wpAny_bind (HT.slicePart_ p3 ?_)
  show wpAny _ _ (if ((-1 : Int) == 0) = true then _ else _) _ _ s
  rw [if_neg (by decide)]
  refine wpAny_bind (HT.slicePart_ p1 (wpAny_bind (HT.slicePart_ p2 (wpAny_bind (wpAny_pure ?_)))))
  show wpAny _ _ (pure ((n : Int) - 1, (-1 : Int), Builtin.Slice.slicePlaces ((n : Int) - 1) (-1) (-1))) _ _ s
  rw [back_places]
  exact wpAny_pure goal
theorem tuple_back {t sl : Addr} {items : Array Value} {v1 v2 v3 : Value} {Q : Value → Shared → Prop} (isT : IsTup s.heap t items) (isS : s.heap.IsSliceOf sl v1 v2 v3) (p1 : IsPart v1 none) (p2 : IsPart v2 none) (p3 : IsPart v3 (some (-1)))
    (goal : Q (.ref s.heap.objs.size) { s with heap := s.heap.push { cls := .type "tuple", data := .seq items.toList.reverse.toArray } }) (fits : items.size ≤ sizeLine) : wpAny (model prog w) A (getItem (.ref t) (.ref sl)) Q E s := by
  have okR : sizeOk (.seq items.toList.reverse.toArray) := by
    show items.toList.reverse.toArray.size ≤ sizeLine
    rw [List.size_toArray, List.length_reverse, Array.length_toList]
    exact fits
  obtain ⟨os, atS, clS, daS⟩ := id isS
  have tyS : s.TypeIs (.ref sl) "slice" := ⟨os, atS, clS⟩
  unfold getItem
  try with_reducible refine wpAny_holding ?_
  first | refine wpAny_bind (wpAny_pure ?_) | skip
  refine wpAny_bind (wpAny_sequenceKey isT.typeIs (by decide) ?_)
  refine wpAny_bind (wpAny_callSpecial?_slot (name := Str.ofString "__getitem__") isT.typeIs PyProof.Rows.slot_tuple_getitem (wpAny_call_entry PyProof.Rows.slot_tuple_getitem isT.typeIs entry_tuple_getitem ?_ (args_tuple_getitem _ _)))
  show wpAny _ _ (Builtin.Tuple.tupleItemsOf (.ref t) >>= _) _ _ s
  refine wpAny_bind (tupleItemsOf_ isT ?_)
  refine wpAny_bind (wpAny_typeOf tyS ?_)
  rw [if_pos (by decide)]
  refine wpAny_bind (slice_back isS p1 p2 p3 ?_)
  have no : ¬ ((((items.size : Int) - 1) == 0 && (-1 : Int) == 1 && items.size == items.size) = true) := by
    rw [show ((-1 : Int) == 1) = false by decide, Bool.and_false, Bool.false_and]
    exact Bool.false_ne_true
  show wpAny _ _ (if (((items.size : Int) - 1) == 0 && (-1 : Int) == 1 && items.size == items.size) = true then _ else _) _ _ s
  rw [if_neg no, back_pick]
  first
    | exact wpAny_bind (m := Builtin.Tuple.tupleExact _) (wpAny_newObj_type (wpAny_pure ⟨_, rfl, wpAny_pure goal⟩) okR)
    | exact wpAny_bind (m := Builtin.Tuple.tupleExact _) (wpAny_newObj_type (wpAny_bind (wpAny_pure (wpAny_pure ⟨_, rfl, wpAny_pure goal⟩))) okR)
    | exact wpAny_bind (wpAny_bind (m := Builtin.Tuple.tupleExact _) (wpAny_newObj_type (wpAny_pure (wpAny_pure ⟨_, rfl, wpAny_pure goal⟩)) okR))
    | exact wpAny_bind (wpAny_bind (m := Builtin.Tuple.tupleExact _) (wpAny_newObj_type (wpAny_pure ⟨_, rfl, wpAny_pure goal⟩) okR))
end
/-- t[::-1] -/
def tRevT (K : PySem.W.Frag) (te : TE) : TE := fun σ H Q => te σ H fun x H1 => ∃ a xs, x = .ref a ∧ SqT K H1 a xs ∧ ∀ p, H1 p = none → Q (.ref p) (upd H1 p (.tup xs.reverse))
theorem pe_revT {X : Cx} {e : Expr} {te : TE} {k : Nat} {p1 p2 p3 pos : Pos} (he : PE X e te) : PE X (.Subscript e (.Slice none none (some (.UnaryOp .USub (.Constant (.int 1) k p1) p2)) p3) pos) (tRevT X.K te) := by
  refine ⟨fun pins st σ H Q I want => ?_⟩
  refine Subscript_ (thn (he.run pins st σ H _ I want) fun v s1 ⟨x, H1, I1, r1, q1⟩ => ?_)
  obtain ⟨a, xs, ex, isT, q⟩ := q1
  subst ex
  cases r1
  have step : PO X (some (.UnaryOp .USub (.Constant (.int 1) k p1) p2)) (tPart (tUn (rU fun i => .int (-i)) (tC (.int 1)))) := po_some (pe_un un_neg pe_int)
  refine wpAny_Slice (thn (po_none.run pins s1 σ H1 (fun o H2 => o = none ∧ H2 = H1) I1 ⟨rfl, rfl⟩) fun vl s2 ⟨l, H2, I2, pl, el, e2⟩ => ?_)
  subst el e2
  refine thn (po_none.run pins s2 σ H2 (fun o H3 => o = none ∧ H3 = H2) I2 ⟨rfl, rfl⟩) fun vu s3 ⟨u, H3, I3, pu, eu, e3⟩ => ?_
  subst eu e3
  refine thn (step.run pins s3 σ H3 (fun o H4 => o = some (-1) ∧ H4 = H3) I3 ⟨1, rfl, -1, rfl, rfl, rfl⟩) fun vs s4 ⟨o, H4, I4, ps, eo, e4⟩ => ?_
  subst eo e4
  have I5 : Inv X pins σ H4 { s4 with heap := s4.heap.push { cls := .type "slice", data := .fields #[vl, vu, vs] } } := I4.kept (t' := s4.toks) fun b ob z => Heap.get?_push_of_some _ z
  obtain ⟨its, r, ht, hz⟩ := I5.tuple isT
  have many := r.length
  show wpAny (model X.prog X.w) X.A (subscriptTail e (.Slice none none (some (.UnaryOp .USub (.Constant (.int 1) k p1) p2)) p3) (.ref a) (.ref s4.heap.objs.size)) (EP X pins σ Q) X.xe { s4 with heap := s4.heap.push { cls := .type "slice", data := .fields #[vl, vu, vs] } }
  refine tail_any (ops := [.ref a, .ref s4.heap.objs.size]) ht.typeIs (PyProof.Rows.slot_tuple_getitem.lookup) ?_ (by with_unfolding_all rfl)
  refine tuple_back ht (Heap.IsSliceOf.new _ vl vu vs) pl pu ps ?_ (by rw [List.size_toArray]; omega)
  refine ⟨.ref _, _, I5.laid (t' := s4.toks) (o := .tup xs.reverse) (fun b ob z => Heap.get?_push_of_some _ z) (Nat.le_refl _) ?_, rfl, q _ (I5.hok.fresh (Nat.le_refl _))⟩
  exact ⟨by rw [List.length_reverse]; exact hz, _, r.reverse, IsTup.new _ _⟩
end L2

set_option Elab.async false
namespace K18
/-! a race, told by its ways' begins and delays: plain mathematics -/
abbrev Wd := Option Int × Int × Int
abbrev En := Option (Int × Int)
def has (ds : List Wd) (j : Nat) : Bool := match ds[j]? with | some d => d.1.isSome | none => false
def bg (ds : List Wd) (j : Nat) : Int := match ds[j]? with | some d => d.1.getD 0 | none => 0
def ls (ds : List Wd) (j : Nat) : Int := match ds[j]? with | some d => d.2.1 | none => 0
def ms (ds : List Wd) (j : Nat) : Int := match ds[j]? with | some d => d.2.2 | none => 0
def fin (ds : List Wd) (j : Nat) : Int := bg ds j + 2 * ms ds j
def opn (ds : List Wd) (j : Nat) : Int := bg ds j + 2 * ls ds j
def early (ds : List Wd) (w : Nat) (t : Int) (j : Nat) : Bool := has ds j && (decide (j ≠ w) && (decide (fin ds j < t) || (decide (fin ds j = t) && decide (j < w))))
def hurs (ds : List Wd) (w : Nat) (t : Int) : List Nat := (List.range ds.length).filter (early ds w t)
def can (ds : List Wd) (z : Int) (w : Nat) (t : Int) : Bool := has ds w && (decide (opn ds w ≤ t) && decide (t ≤ fin ds w)) && decide (((hurs ds w t).length : Int) ≤ z)
/-- delays in order -/
def Fit (ds : List Wd) : Prop := ∀ j, has ds j = true → ls ds j ≤ ms ds j
def ent (es : List En) (j : Nat) : En := (es[j]?).getD none
/-- a run -/
def Run (ds : List Wd) (es : List En) : Prop := es.length = ds.length ∧ ∀ j a b, ent es j = some (a, b) → has ds j = true ∧ ls ds j ≤ a ∧ a ≤ ms ds j ∧ ls ds j ≤ b ∧ b ≤ ms ds j
def shut (ds : List Wd) (es : List En) (j : Nat) : Bool := has ds j && (ent es j).isNone
def qn (ds : List Wd) (es : List En) : Nat := ((List.range ds.length).filter (shut ds es)).length
def step (ds : List Wd) (es : List En) (best : Option (Nat × Int)) (k : Nat) : Option (Nat × Int) := match ent es k with
  | none => best
  | some (a, b) => match best with
    | none => some (k, bg ds k + a + b)
    | some (k', m') => if bg ds k + a + b < m' then some (k, bg ds k + a + b) else some (k', m')
def outN (ds : List Wd) (es : List En) : Nat → Option (Nat × Int)
  | 0 => none
  | n + 1 => step ds es (outN ds es n) n
def out (ds : List Wd) (es : List En) : Option (Nat × Int) := outN ds es ds.length
variable {ds : List Wd} {es : List En} {w : Nat} {t z : Int}
theorem has_lt {j : Nat} (h : has ds j = true) : j < ds.length := by
  unfold has at h
  by_cases q : j < ds.length
  · exact q
  · rw [List.getElem?_eq_none (by omega)] at h
    cases h
/-- the earliest answer, the first of those at one moment -/
theorem outN_spec (n : Nat) : match outN ds es n with
    | none => ∀ j, j < n → ent es j = none
    | some (w, t) => w < n ∧ (∃ a b, ent es w = some (a, b) ∧ t = bg ds w + a + b) ∧ ∀ j a b, j < n → ent es j = some (a, b) → t < bg ds j + a + b ∨ (t = bg ds j + a + b ∧ w ≤ j) := by
  induction n with
  | zero => exact fun j hj => absurd hj (Nat.not_lt_zero _)
  | succ n ih =>
    show match step ds es (outN ds es n) n with
      | none => ∀ j, j < n + 1 → ent es j = none
      | some (w, t) => w < n + 1 ∧ (∃ a b, ent es w = some (a, b) ∧ t = bg ds w + a + b) ∧ ∀ j a b, j < n + 1 → ent es j = some (a, b) → t < bg ds j + a + b ∨ (t = bg ds j + a + b ∧ w ≤ j)
    unfold step
    cases he : ent es n with
    | none =>
      dsimp only
      cases ho : outN ds es n with
      | none =>
        rw [ho] at ih
        exact fun j hj => by
          rcases Nat.lt_succ_iff_lt_or_eq.mp hj with h | rfl
          · exact ih j h
          · exact he
      | some r =>
        obtain ⟨w, t⟩ := r
        rw [ho] at ih
        obtain ⟨h1, h2, h3⟩ := ih
        refine ⟨by omega, h2, fun j a b hj h => ?_⟩
        rcases Nat.lt_succ_iff_lt_or_eq.mp hj with q | rfl
        · exact h3 j a b q h
        · rw [he] at h
          cases h
    | some p =>
      obtain ⟨a, b⟩ := p
      dsimp only
      cases ho : outN ds es n with
      | none =>
        rw [ho] at ih
        refine ⟨by omega, ⟨a, b, he, rfl⟩, fun j a' b' hj h => ?_⟩
        rcases Nat.lt_succ_iff_lt_or_eq.mp hj with q | rfl
        · rw [ih j q] at h
          cases h
        · rw [he] at h
          cases h
          exact .inr ⟨rfl, Nat.le_refl _⟩
      | some r =>
        obtain ⟨w, t⟩ := r
        rw [ho] at ih
        obtain ⟨h1, ⟨a1, b1, h2, h2'⟩, h3⟩ := ih
        dsimp only
        by_cases hlt : bg ds n + a + b < t
        · rw [if_pos hlt]
          refine ⟨by omega, ⟨a, b, he, rfl⟩, fun j a' b' hj h => ?_⟩
          rcases Nat.lt_succ_iff_lt_or_eq.mp hj with q | rfl
          · rcases h3 j a' b' q h with h4 | ⟨h4, h5⟩
            · exact .inl (by omega)
            · exact .inl (by omega)
          · rw [he] at h
            cases h
            exact .inr ⟨rfl, Nat.le_refl _⟩
        · rw [if_neg hlt]
          refine ⟨by omega, ⟨a1, b1, h2, h2'⟩, fun j a' b' hj h => ?_⟩
          rcases Nat.lt_succ_iff_lt_or_eq.mp hj with q | rfl
          · exact h3 j a' b' q h
          · rw [he] at h
            cases h
            by_cases e : t = bg ds j + a + b
            · exact .inr ⟨e, by omega⟩
            · exact .inl (by omega)
theorem filter_mono {α : Type} {l : List α} {p q : α → Bool} (h : ∀ x ∈ l, p x = true → q x = true) : (l.filter p).length ≤ (l.filter q).length := by
  induction l with
  | nil => exact Nat.le_refl _
  | cons x xs ih =>
    have ih' := ih fun y hy => h y (List.mem_cons_of_mem _ hy)
    rw [List.filter_cons, List.filter_cons]
    cases hp : p x with
    | true =>
      rw [h x List.mem_cons_self hp, if_pos rfl, if_pos rfl]
      exact Nat.succ_le_succ ih'
    | false =>
      rw [if_neg (by decide)]
      cases q x with
      | true => rw [if_pos rfl]; exact Nat.le_succ_of_le ih'
      | false => rw [if_neg (by decide)]; exact ih'
theorem early_iff {j : Nat} : early ds w t j = true ↔ has ds j = true ∧ j ≠ w ∧ (fin ds j < t ∨ (fin ds j = t ∧ j < w)) := by
  unfold early
  simp [Bool.and_eq_true, Bool.or_eq_true]
theorem can_iff : can ds z w t = true ↔ has ds w = true ∧ (opn ds w ≤ t ∧ t ≤ fin ds w) ∧ ((hurs ds w t).length : Int) ≤ z := by
  unfold can
  simp [Bool.and_eq_true, and_assoc]
theorem can_of_run (hr : Run ds es) (hq : (qn ds es : Int) ≤ z) (ho : out ds es = some (w, t)) : can ds z w t = true := by
  have sp := outN_spec (ds := ds) (es := es) ds.length
  have ho' : outN ds es ds.length = some (w, t) := ho
  rw [ho'] at sp
  obtain ⟨h1, ⟨a, b, h2, rfl⟩, h3⟩ := sp
  obtain ⟨r1, r2, r3, r4, r5⟩ := hr.2 w a b h2
  refine can_iff.mpr ⟨r1, ⟨by unfold opn; omega, by unfold fin; omega⟩, ?_⟩
  refine Int.le_trans (Int.ofNat_le.mpr ?_) hq
  refine filter_mono fun j hj he => ?_
  obtain ⟨e1, e2, e3⟩ := early_iff.mp he
  unfold shut
  rw [e1, Bool.true_and]
  cases hE : ent es j with
  | none => rfl
  | some p =>
    obtain ⟨a', b'⟩ := p
    exfalso
    obtain ⟨_, q2, q3, q4, q5⟩ := hr.2 j a' b' hE
    have f : fin ds j = bg ds j + 2 * ms ds j := rfl
    rcases h3 j a' b' (has_lt e1) hE with h | ⟨h, h'⟩
    · rcases e3 with e | ⟨e, _⟩ <;> omega
    · rcases e3 with e | ⟨e, e'⟩ <;> omega
/-- a run in which w answers first, at t -/
def run (ds : List Wd) (w : Nat) (t : Int) : List En := (List.range ds.length).map fun j => if j = w then
    (if t - bg ds w - ls ds w ≤ ms ds w then some (t - bg ds w - ls ds w, ls ds w) else some (ms ds w, t - bg ds w - ms ds w))
  else if early ds w t j = true then none else if has ds j = true then some (ms ds j, ms ds j) else none
theorem ent_run {j : Nat} (h : j < ds.length) : ent (run ds w t) j = if j = w then
    (if t - bg ds w - ls ds w ≤ ms ds w then some (t - bg ds w - ls ds w, ls ds w) else some (ms ds w, t - bg ds w - ms ds w))
  else if early ds w t j = true then none else if has ds j = true then some (ms ds j, ms ds j) else none := by
  unfold ent run
  rw [List.getElem?_map, List.getElem?_range h]
  rfl
theorem ent_none {j : Nat} (h : es.length ≤ j) : ent es j = none := by
  unfold ent
  rw [List.getElem?_eq_none h]
  rfl
theorem run_of_can (hf : Fit ds) (h : can ds z w t = true) : Run ds (run ds w t) ∧ (qn ds (run ds w t) : Int) ≤ z ∧ out ds (run ds w t) = some (w, t) := by
  obtain ⟨c1, ⟨c2, c3⟩, c4⟩ := can_iff.mp h
  have hw := has_lt c1
  have hlm := hf w c1
  unfold opn at c2
  unfold fin at c3
  have len : (run ds w t).length = ds.length := by unfold run; rw [List.length_map, List.length_range]
  have hrun : Run ds (run ds w t) := by
    refine ⟨len, fun j a b he => ?_⟩
    have hj : j < ds.length := by
      by_cases q : j < ds.length
      · exact q
      · rw [ent_none (by omega)] at he
        cases he
    rw [ent_run hj] at he
    by_cases e : j = w
    · subst e
      rw [if_pos rfl] at he
      by_cases e2 : t - bg ds j - ls ds j ≤ ms ds j
      · rw [if_pos e2] at he
        cases he
        exact ⟨c1, by omega, by omega, by omega, by omega⟩
      · rw [if_neg e2] at he
        cases he
        exact ⟨c1, by omega, by omega, by omega, by omega⟩
    · rw [if_neg e] at he
      cases e2 : early ds w t j with
      | true => rw [e2, if_pos rfl] at he; cases he
      | false =>
        rw [e2, if_neg (by decide)] at he
        cases e3 : has ds j with
        | false => rw [e3, if_neg (by decide)] at he; cases he
        | true =>
          rw [e3, if_pos rfl] at he
          cases he
          have := hf j e3
          exact ⟨rfl, by omega, by omega, by omega, by omega⟩
  have hq : (qn ds (run ds w t) : Int) ≤ z := by
    refine Int.le_trans (Int.ofNat_le.mpr ?_) c4
    refine filter_mono fun j hj he => ?_
    have hj' := List.mem_range.mp hj
    unfold shut at he
    rw [Bool.and_eq_true, ent_run hj'] at he
    obtain ⟨h1, h2⟩ := he
    by_cases e : j = w
    · rw [if_pos e] at h2
      split at h2 <;> cases h2
    · rw [if_neg e] at h2
      cases e2 : early ds w t j with
      | true => rfl
      | false =>
        rw [e2, if_neg (by decide), h1, if_pos rfl] at h2
        cases h2
  refine ⟨hrun, hq, ?_⟩
  obtain ⟨aw, bw, hE, hs⟩ : ∃ a b, ent (run ds w t) w = some (a, b) ∧ t = bg ds w + a + b := by
    rw [ent_run hw, if_pos rfl]
    by_cases e2 : t - bg ds w - ls ds w ≤ ms ds w
    · rw [if_pos e2]
      exact ⟨_, _, rfl, by omega⟩
    · rw [if_neg e2]
      exact ⟨_, _, rfl, by omega⟩
  have sp := outN_spec (ds := ds) (es := run ds w t) ds.length
  unfold out
  cases ho : outN ds (run ds w t) ds.length with
  | none =>
    rw [ho] at sp
    rw [sp w hw] at hE
    cases hE
  | some r =>
    obtain ⟨w', t'⟩ := r
    rw [ho] at sp
    obtain ⟨s1, ⟨a, b, s2, s2'⟩, s3⟩ := sp
    by_cases e : w' = w
    · subst e
      rw [hE] at s2
      cases s2
      rw [s2', hs]
    · exfalso
      rw [ent_run s1, if_neg e] at s2
      cases e2 : early ds w t w' with
      | true => rw [e2, if_pos rfl] at s2; cases s2
      | false =>
        rw [e2, if_neg (by decide)] at s2
        cases e3 : has ds w' with
        | false => rw [e3, if_neg (by decide)] at s2; cases s2
        | true =>
          rw [e3, if_pos rfl] at s2
          cases s2
          have f : fin ds w' = bg ds w' + 2 * ms ds w' := rfl
          have ne : ¬ (has ds w' = true ∧ w' ≠ w ∧ (fin ds w' < t ∨ (fin ds w' = t ∧ w' < w))) := fun q => by
            rw [early_iff.mpr q] at e2
            cases e2
          have ne' : ¬ (fin ds w' < t) ∧ ¬ (fin ds w' = t ∧ w' < w) := ⟨fun q => ne ⟨e3, e, .inl q⟩, fun q => ne ⟨e3, e, .inr q⟩⟩
          rcases s3 w aw bw hw hE with q | ⟨q, q'⟩
          · rw [← hs] at q
            exact ne'.1 (by omega)
          · rw [← hs] at q
            exact ne'.2 ⟨by omega, by omega⟩
def plan (ds : List Wd) : List Nat := (List.range ds.length).filter (has ds)
theorem none_of_run (hr : Run ds es) (ho : out ds es = none) : qn ds es = (plan ds).length := by
  have sp := outN_spec (ds := ds) (es := es) ds.length
  have ho' : outN ds es ds.length = none := ho
  rw [ho'] at sp
  unfold qn plan
  congr 1
  refine List.filter_congr fun j hj => ?_
  unfold shut
  rw [sp j (List.mem_range.mp hj), Option.isNone_none, Bool.and_true]
def still (ds : List Wd) : List En := ds.map fun _ => none
theorem ent_still {j : Nat} : ent (still ds) j = none := by
  unfold ent still
  rw [List.getElem?_map]
  cases ds[j]? <;> rfl
theorem outN_still : ∀ n, outN ds (still ds) n = none
  | 0 => rfl
  | n + 1 => by
    show step ds (still ds) (outN ds (still ds) n) n = none
    unfold step
    rw [ent_still, outN_still n]
theorem still_run : Run ds (still ds) ∧ qn ds (still ds) = (plan ds).length ∧ out ds (still ds) = none := by
  have h1 : Run ds (still ds) := ⟨by unfold still; rw [List.length_map], fun j a b h => by rw [ent_still] at h; cases h⟩
  have h3 : out ds (still ds) = none := outN_still _
  exact ⟨h1, none_of_run h1 h3, h3⟩
theorem can_mono {t' : Int} (h : can ds z w t = true) (h1 : opn ds w ≤ t') (h2 : t' ≤ t) : can ds z w t' = true := by
  obtain ⟨c1, ⟨c2, c3⟩, c4⟩ := can_iff.mp h
  refine can_iff.mpr ⟨c1, ⟨h1, by omega⟩, Int.le_trans (Int.ofNat_le.mpr (filter_mono fun j _ he => ?_)) c4⟩
  obtain ⟨e1, e2, e3⟩ := early_iff.mp he
  refine early_iff.mpr ⟨e1, e2, ?_⟩
  rcases e3 with e | ⟨e, e'⟩
  · exact .inl (by omega)
  · by_cases q : t' = t
    · exact .inr ⟨by omega, e'⟩
    · exact .inl (by omega)
/-! the latest end -/
theorem count_lt : ∀ {E : List Int} {n : Nat} {L : Int}, E.Pairwise (· ≤ ·) → E[n]? = some L → (E.filter fun x => decide (x < L)).length ≤ n
  | [], _, _, _, h => nomatch h
  | x :: E, 0, L, hs, h => by
    cases h
    have : (List.filter (fun y => decide (y < x)) (x :: E)) = [] := by
      rw [List.filter_eq_nil_iff]
      intro y hy
      rcases List.mem_cons.mp hy with rfl | hy
      · simp
      · have := (List.pairwise_cons.mp hs).1 y hy
        simp
        omega
    rw [this]
    exact Nat.le_refl _
  | x :: E, n + 1, L, hs, h => by
    have ih := count_lt (n := n) (L := L) (List.pairwise_cons.mp hs).2 h
    rw [List.filter_cons]
    split
    · exact Nat.succ_le_succ ih
    · exact Nat.le_succ_of_le ih
theorem count_le : ∀ {E : List Int} {n : Nat} {L : Int}, E.Pairwise (· ≤ ·) → E[n]? = some L → n + 1 ≤ (E.filter fun x => decide (x ≤ L)).length
  | [], _, _, _, h => nomatch h
  | x :: E, 0, L, hs, h => by
    cases h
    rw [List.filter_cons, if_pos (by simp)]
    exact Nat.succ_le_succ (Nat.zero_le _)
  | x :: E, n + 1, L, hs, h => by
    have ih := count_le (n := n) (L := L) (List.pairwise_cons.mp hs).2 h
    have hx : x ≤ L := (List.pairwise_cons.mp hs).1 L (List.mem_of_getElem? h)
    rw [List.filter_cons, if_pos (by simpa using hx)]
    exact Nat.succ_le_succ ih
def ends (ds : List Wd) : List Int := (plan ds).map (fin ds)
theorem ends_count (p : Int → Bool) : ((ends ds).filter p).length = ((List.range ds.length).filter fun j => has ds j && p (fin ds j)).length := by
  unfold ends plan
  rw [List.filter_map, List.length_map, List.filter_filter]
  congr 1
  refine List.filter_congr fun j _ => ?_
  exact Bool.and_comm _ _
theorem perm_count {E F : List Int} (h : E.Perm F) (p : Int → Bool) : (E.filter p).length = (F.filter p).length := (h.filter p).length_eq
theorem latest_hi {E : List Int} {n : Nat} {L : Int} (hp : E.Perm (ends ds)) (hs : E.Pairwise (· ≤ ·)) (hL : E[n]? = some L) (hz : z = (n : Int)) (h : can ds z w t = true) : t ≤ L := by
  by_cases q : t ≤ L
  · exact q
  · exfalso
    obtain ⟨c1, ⟨c2, c3⟩, c4⟩ := can_iff.mp h
    have k := count_le hs hL
    rw [perm_count hp, ends_count] at k
    have k2 : ((List.range ds.length).filter fun j => has ds j && decide (fin ds j ≤ L)).length ≤ (hurs ds w t).length := filter_mono fun j hj he => by
      rw [Bool.and_eq_true, decide_eq_true_eq] at he
      refine early_iff.mpr ⟨he.1, fun e => ?_, .inl (by omega)⟩
      subst e
      omega
    omega
theorem first_of {p : Nat → Bool} : ∀ {n : Nat}, (∃ j, j < n ∧ p j = true) → ∃ j, j < n ∧ p j = true ∧ ∀ i, i < j → p i = false
  | 0, ⟨j, h, _⟩ => absurd h (Nat.not_lt_zero _)
  | n + 1, h => by
    by_cases q : ∃ j, j < n ∧ p j = true
    · obtain ⟨j, h1, h2, h3⟩ := first_of q
      exact ⟨j, by omega, h2, h3⟩
    · obtain ⟨j, h1, h2⟩ := h
      have e : j = n := by
        by_cases z : j < n
        · exact absurd ⟨j, z, h2⟩ q
        · omega
      subst e
      refine ⟨j, h1, h2, fun i hi => ?_⟩
      cases z : p i with
      | false => rfl
      | true => exact absurd ⟨i, hi, z⟩ q
theorem latest_lo (hf : Fit ds) {E : List Int} {n : Nat} {L : Int} (hp : E.Perm (ends ds)) (hs : E.Pairwise (· ≤ ·)) (hL : E[n]? = some L) (hz : z = (n : Int)) : ∃ w, can ds z w L = true := by
  have hm : L ∈ ends ds := hp.mem_iff.mp (List.mem_of_getElem? hL)
  obtain ⟨j, hj, hjL⟩ := List.mem_map.mp hm
  obtain ⟨hj1, hj2⟩ := List.mem_filter.mp hj
  obtain ⟨w, h1, h2, h3⟩ := first_of (p := fun j => has ds j && decide (fin ds j = L)) (n := ds.length) ⟨j, List.mem_range.mp hj1, by rw [hj2, hjL]; simp⟩
  rw [Bool.and_eq_true, decide_eq_true_eq] at h2
  refine ⟨w, can_iff.mpr ⟨h2.1, ⟨?_, by omega⟩, ?_⟩⟩
  · have := hf w h2.1
    have q : fin ds w = bg ds w + 2 * ms ds w := rfl
    unfold opn
    omega
  · have k := count_lt hs hL
    rw [perm_count hp, ends_count] at k
    have k2 : (hurs ds w L).length ≤ ((List.range ds.length).filter fun j => has ds j && decide (fin ds j < L)).length := filter_mono fun i hi he => by
      obtain ⟨e1, e2, e3⟩ := early_iff.mp he
      rcases e3 with e | ⟨e, e'⟩
      · rw [e1, decide_eq_true e]
        rfl
      · have := h3 i e'
        rw [e1, decide_eq_true e] at this
        cases this
    omega
end K18

set_option Elab.async false
namespace K18
/-! runs as the law makes them -/
def rowE (l m a : Int) : List En := (List.range (m + 1 - l).toNat).map fun b : Nat => some (a, l + (b : Int))
def pairs (l m : Int) (n : Nat) : List En := (List.range n).flatMap fun a : Nat => rowE l m (l + (a : Int))
def ents (d : Wd) : List En := none :: (if d.1.isSome = true then pairs d.2.1 d.2.2 (d.2.2 + 1 - d.2.1).toNat else [])
theorem pairs_succ (l m : Int) (n : Nat) : pairs l m (n + 1) = pairs l m n ++ rowE l m (l + (n : Int)) := by
  unfold pairs
  rw [List.range_succ, List.flatMap_append]
  simp
theorem mem_pairs {l m : Int} {n : Nat} {e : En} : e ∈ pairs l m n ↔ ∃ a b : Int, e = some (a, b) ∧ l ≤ a ∧ a < l + (n : Int) ∧ l ≤ b ∧ b ≤ m := by
  unfold pairs rowE
  rw [List.mem_flatMap]
  constructor
  · rintro ⟨a, ha, hb⟩
    obtain ⟨b, hb2, rfl⟩ := List.mem_map.mp hb
    have h1 := List.mem_range.mp ha
    have h2 := List.mem_range.mp hb2
    exact ⟨_, _, rfl, by omega, by omega, by omega, by omega⟩
  · rintro ⟨a, b, rfl, h1, h2, h3, h4⟩
    refine ⟨(a - l).toNat, List.mem_range.mpr (by omega), List.mem_map.mpr ⟨(b - l).toNat, List.mem_range.mpr (by omega), ?_⟩⟩
    rw [Int.toNat_of_nonneg (by omega), Int.toNat_of_nonneg (by omega)]
    congr 2 <;> omega
theorem mem_ents {d : Wd} {e : En} : e ∈ ents d ↔ ∀ a b, e = some (a, b) → d.1.isSome = true ∧ d.2.1 ≤ a ∧ a ≤ d.2.2 ∧ d.2.1 ≤ b ∧ b ≤ d.2.2 := by
  unfold ents
  rw [List.mem_cons]
  constructor
  · rintro (rfl | h) a b he
    · cases he
    · cases hs : d.1.isSome with
      | false => rw [hs, if_neg (by decide)] at h; cases h
      | true =>
        rw [hs, if_pos rfl, mem_pairs] at h
        obtain ⟨a', b', rfl, h1, h2, h3, h4⟩ := h
        cases he
        exact ⟨rfl, by omega, by omega, by omega, by omega⟩
  · intro h
    cases e with
    | none => exact .inl rfl
    | some p =>
      obtain ⟨a, b⟩ := p
      obtain ⟨h0, h1, h2, h3, h4⟩ := h a b rfl
      rw [h0, if_pos rfl, mem_pairs]
      exact .inr ⟨a, b, rfl, by omega, by omega, by omega, by omega⟩
theorem rowE_len (l m a : Int) : (rowE l m a).length = (m + 1 - l).toNat := by unfold rowE; rw [List.length_map, List.length_range]
theorem pairs_len (l m : Int) : ∀ n, (pairs l m n).length = n * (m + 1 - l).toNat
  | 0 => by unfold pairs; simp
  | n + 1 => by rw [pairs_succ, List.length_append, pairs_len l m n, rowE_len, Nat.succ_mul]
theorem ents_len {d : Wd} (h : d.2.2 - d.2.1 ≤ 9) : (ents d).length ≤ 101 := by
  unfold ents
  rw [List.length_cons]
  cases hs : d.1.isSome with
  | false => rw [if_neg (by decide)]; decide
  | true =>
    rw [if_pos rfl, pairs_len]
    have h10 : (d.2.2 + 1 - d.2.1).toNat ≤ 10 := by omega
    have := Nat.mul_le_mul h10 h10
    omega
/-- one way more -/
def more (rs : List (List En)) (d : Wd) : List (List En) := rs.flatMap fun es => (ents d).map fun e => es ++ [e]
def rns (ds : List Wd) : Nat → List (List En)
  | 0 => [[]]
  | j + 1 => match ds[j]? with | some d => more (rns ds j) d | none => rns ds j
theorem more_len {rs : List (List En)} {d : Wd} : (more rs d).length = rs.length * (ents d).length := by
  unfold more
  induction rs with
  | nil => simp
  | cons r rs ih =>
    rw [List.flatMap_cons, List.length_append, ih, List.length_map, List.length_cons, Nat.succ_mul, Nat.add_comm]
theorem ent_snoc {es : List En} {e : En} {i : Nat} : ent (es ++ [e]) i = if i < es.length then ent es i else if i = es.length then e else none := by
  unfold ent
  by_cases h : i < es.length
  · rw [if_pos h, List.getElem?_append_left h]
  · rw [if_neg h, List.getElem?_append_right (by omega)]
    by_cases h2 : i = es.length
    · rw [if_pos h2, h2, Nat.sub_self]
      rfl
    · rw [if_neg h2]
      have : i - es.length ≥ 1 := by omega
      cases hk : i - es.length with
      | zero => omega
      | succ k => rfl
theorem mem_rns {ds : List Wd} : ∀ {j : Nat} {es : List En}, j ≤ ds.length → (es ∈ rns ds j ↔ es.length = j ∧ ∀ i d, i < j → ds[i]? = some d → ent es i ∈ ents d)
  | 0, es, _ => by
    unfold rns
    rw [List.mem_singleton]
    constructor
    · rintro rfl
      exact ⟨rfl, fun i d h => absurd h (Nat.not_lt_zero _)⟩
    · rintro ⟨h, _⟩
      exact List.length_eq_zero_iff.mp h
  | j + 1, es, hj => by
    have hjl : j < ds.length := hj
    obtain ⟨d, hd⟩ : ∃ d, ds[j]? = some d := ⟨_, List.getElem?_eq_getElem hjl⟩
    have e : rns ds (j + 1) = more (rns ds j) d := by
      show (match ds[j]? with | some d => more (rns ds j) d | none => rns ds j) = _
      rw [hd]
    rw [e]
    unfold more
    rw [List.mem_flatMap]
    constructor
    · rintro ⟨es', h1, h2⟩
      obtain ⟨x, hx, rfl⟩ := List.mem_map.mp h2
      obtain ⟨l1, l2⟩ := (mem_rns (Nat.le_of_lt hjl)).mp h1
      refine ⟨by rw [List.length_append, l1]; rfl, fun i d' hi hd' => ?_⟩
      rw [ent_snoc, l1]
      by_cases q : i < j
      · rw [if_pos q]
        exact l2 i d' q hd'
      · have : i = j := by omega
        subst this
        rw [if_neg q, if_pos rfl]
        rw [hd] at hd'
        cases hd'
        exact hx
    · rintro ⟨l1, l2⟩
      have hne : es ≠ [] := fun z => by rw [z] at l1; cases l1
      have hs := List.dropLast_concat_getLast hne
      have hl : es.dropLast.length = j := by rw [List.length_dropLast, l1]; rfl
      refine ⟨es.dropLast, (mem_rns (Nat.le_of_lt hjl)).mpr ⟨hl, fun i d' hi hd' => ?_⟩, List.mem_map.mpr ⟨es.getLast hne, ?_, hs⟩⟩
      · have := l2 i d' (by omega) hd'
        rw [← hs, ent_snoc, if_pos (by omega)] at this
        exact this
      · have := l2 j d (by omega) hd
        rw [← hs, ent_snoc, if_neg (by omega), if_pos (by omega)] at this
        exact this
theorem run_rns {ds : List Wd} {es : List En} : es ∈ rns ds ds.length ↔ Run ds es := by
  rw [mem_rns (Nat.le_refl _)]
  constructor
  · rintro ⟨h1, h2⟩
    refine ⟨h1, fun j a b he => ?_⟩
    have hj : j < ds.length := by
      by_cases q : j < ds.length
      · exact q
      · rw [ent_none (by omega)] at he
        cases he
    obtain ⟨d, hd⟩ : ∃ d, ds[j]? = some d := ⟨_, List.getElem?_eq_getElem hj⟩
    have := mem_ents.mp (h2 j d hj hd) a b he
    unfold has ls ms
    rw [hd]
    exact this
  · rintro ⟨h1, h2⟩
    refine ⟨h1, fun i d hi hd => mem_ents.mpr fun a b he => ?_⟩
    have := h2 i a b he
    unfold has ls ms at this
    rw [hd] at this
    exact this
def lim (z : Int) (ds : List Wd) : List (List En) := (rns ds ds.length).filter fun es => decide ((qn ds es : Int) ≤ z)
def outs (z : Int) (ds : List Wd) : List (Option (Nat × Int)) := (lim z ds).map (out ds)
theorem mem_lim {z : Int} {ds : List Wd} {es : List En} : es ∈ lim z ds ↔ Run ds es ∧ (qn ds es : Int) ≤ z := by
  unfold lim
  rw [List.mem_filter, run_rns, decide_eq_true_eq]
theorem mem_outs {z t : Int} {ds : List Wd} {w : Nat} (hf : Fit ds) : some (w, t) ∈ outs z ds ↔ can ds z w t = true := by
  unfold outs
  rw [List.mem_map]
  constructor
  · rintro ⟨es, h1, h2⟩
    obtain ⟨h3, h4⟩ := mem_lim.mp h1
    exact can_of_run h3 h4 h2
  · intro h
    obtain ⟨h1, h2, h3⟩ := run_of_can hf h
    exact ⟨_, mem_lim.mpr ⟨h1, h2⟩, h3⟩
theorem none_outs {z : Int} {ds : List Wd} : none ∈ outs z ds ↔ ((plan ds).length : Int) ≤ z := by
  unfold outs
  rw [List.mem_map]
  constructor
  · rintro ⟨es, h1, h2⟩
    obtain ⟨h3, h4⟩ := mem_lim.mp h1
    rw [none_of_run h3 h2] at h4
    exact h4
  · intro h
    obtain ⟨h1, h2, h3⟩ := still_run (ds := ds)
    exact ⟨_, mem_lim.mpr ⟨h1, by rw [h2]; exact h⟩, h3⟩
/-- the moments at which w answers first -/
def mom1 (w : Nat) (acc : List Int) (o : Option (Nat × Int)) : List Int := match o with
  | some (k, m) => if k = w ∧ m ∉ acc then acc ++ [m] else acc
  | none => acc
def momL (w : Nat) (os : List (Option (Nat × Int))) : List Int := os.foldl (mom1 w) []
theorem momL_snoc {w : Nat} {os : List (Option (Nat × Int))} {o : Option (Nat × Int)} : momL w (os ++ [o]) = mom1 w (momL w os) o := by
  unfold momL
  rw [List.foldl_append]
  rfl
theorem mom1_facts {w : Nat} {acc : List Int} {o : Option (Nat × Int)} (hn : acc.Nodup) : (mom1 w acc o).Nodup ∧ ∀ x, x ∈ mom1 w acc o ↔ x ∈ acc ∨ o = some (w, x) := by
  unfold mom1
  cases o with
  | none => exact ⟨hn, fun x => by simp⟩
  | some p =>
    obtain ⟨k, m⟩ := p
    dsimp only
    by_cases h : k = w ∧ m ∉ acc
    · rw [if_pos h]
      refine ⟨?_, fun x => ?_⟩
      · rw [List.nodup_append]
        refine ⟨hn, by simp, fun a ha b hb => ?_⟩
        rw [List.mem_singleton.mp hb]
        rintro rfl
        exact h.2 ha
      · rw [List.mem_append, List.mem_singleton, h.1]
        simp [eq_comm]
    · rw [if_neg h]
      refine ⟨hn, fun x => ⟨.inl, ?_⟩⟩
      rintro (h1 | h1)
      · exact h1
      · obtain ⟨h2, h3⟩ : k = w ∧ m = x := by cases h1; exact ⟨rfl, rfl⟩
        by_cases q : x ∈ acc
        · exact q
        · exact absurd ⟨h2, by rw [h3]; exact q⟩ h
theorem fold_facts {w : Nat} : ∀ {os : List (Option (Nat × Int))} {acc : List Int}, acc.Nodup → (os.foldl (mom1 w) acc).Nodup ∧ ∀ x, x ∈ os.foldl (mom1 w) acc ↔ x ∈ acc ∨ some (w, x) ∈ os
  | [], acc, h => ⟨h, fun x => by simp⟩
  | o :: os, acc, h => by
    obtain ⟨h1, h2⟩ := mom1_facts (w := w) (o := o) h
    obtain ⟨h3, h4⟩ := fold_facts (os := os) h1
    refine ⟨h3, fun x => ?_⟩
    rw [List.foldl_cons, h4, h2, List.mem_cons]
    constructor
    · rintro ((h | h) | h)
      · exact .inl h
      · exact .inr (.inl h.symm)
      · exact .inr (.inr h)
    · rintro (h | h | h)
      · exact .inl (.inl h)
      · exact .inl (.inr h.symm)
      · exact .inr h
theorem momL_facts {w : Nat} {os : List (Option (Nat × Int))} : (momL w os).Nodup ∧ ∀ x, x ∈ momL w os ↔ some (w, x) ∈ os := by
  obtain ⟨h1, h2⟩ := fold_facts (w := w) (os := os) (acc := []) List.nodup_nil
  exact ⟨h1, fun x => by rw [show momL w os = os.foldl (mom1 w) [] from rfl, h2]; simp⟩
theorem momL_len {w : Nat} : ∀ {os : List (Option (Nat × Int))}, (momL w os).length ≤ os.length := by
  intro os
  have key : ∀ (os : List (Option (Nat × Int))) (acc : List Int), (os.foldl (mom1 w) acc).length ≤ acc.length + os.length := by
    intro os
    induction os with
    | nil => intro acc; exact Nat.le_refl _
    | cons o os ih =>
      intro acc
      have h := ih (mom1 w acc o)
      have h2 : (mom1 w acc o).length ≤ acc.length + 1 := by
        unfold mom1
        cases o with
        | none => exact Nat.le_succ _
        | some p =>
          obtain ⟨k, m⟩ := p
          dsimp only
          split
          · rw [List.length_append]; exact Nat.le_refl _
          · exact Nat.le_succ _
      rw [List.foldl_cons, List.length_cons]
      omega
  have := key os []
  rw [List.length_nil, Nat.zero_add] at this
  exact this
/-- two lists of the same things, each thing once, in order -/
theorem same_of {l m : List Int} (hl : l.Nodup) (hm : m.Nodup) (h : ∀ x, x ∈ l ↔ x ∈ m) (sl : l.Pairwise (· ≤ ·)) (sm : m.Pairwise (· ≤ ·)) : l = m :=
  ((List.perm_ext_iff_of_nodup hl hm).mpr h).eq_of_pairwise (fun _ _ _ _ h1 h2 => Int.le_antisymm h1 h2) sl sm
theorem cans_range {ds : List Wd} {z : Int} {w : Nat} {l : List Int} (hn : l.Nodup) (hs : l.Pairwise (· ≤ ·)) (hm : ∀ x, x ∈ l ↔ can ds z w x = true) {last : Int} (hl : l.getLast? = some last) : l = (List.range (last + 1 - opn ds w).toNat).map fun m : Nat => opn ds w + (m : Int) := by
  have hlast : can ds z w last = true := (hm _).mp (List.mem_of_getLast? hl)
  have hle : ∀ x ∈ l, x ≤ last := fun x hx => by
    obtain ⟨ys, rfl⟩ := List.getLast?_eq_some_iff.mp hl
    rcases List.mem_append.mp hx with h | h
    · exact (List.pairwise_append.mp hs).2.2 x h last (by simp)
    · rw [List.mem_singleton.mp h]
      exact Int.le_refl _
  refine same_of hn ?_ (fun x => ?_) hs ?_
  · rw [List.nodup_iff_pairwise_ne, List.pairwise_map]
    exact List.nodup_range.imp fun h e => h (by omega)
  · rw [List.mem_map]
    constructor
    · intro hx
      have h1 := hle x hx
      have h2 := (can_iff.mp ((hm x).mp hx)).2.1.1
      exact ⟨(x - opn ds w).toNat, List.mem_range.mpr (by omega), by omega⟩
    · rintro ⟨m, h1, rfl⟩
      have := List.mem_range.mp h1
      exact (hm _).mpr (can_mono hlast (by omega) (by omega))
  · rw [List.pairwise_map]
    exact List.pairwise_lt_range.imp fun h => by omega
end K18

set_option Elab.async false
set_option linter.unusedSectionVars false
namespace K18
/-! who is silent behind an outcome; outcomes; milder races: plain mathematics -/
variable {ds : List Wd} {es : List En} {w : Nat} {t z : Int}
theorem early_shut (hr : Run ds es) (ho : out ds es = some (w, t)) {j : Nat} (he : early ds w t j = true) : shut ds es j = true := by
  have sp := outN_spec (ds := ds) (es := es) ds.length
  have ho' : outN ds es ds.length = some (w, t) := ho
  rw [ho'] at sp
  obtain ⟨h1, ⟨a, b, h2, rfl⟩, h3⟩ := sp
  obtain ⟨e1, e2, e3⟩ := early_iff.mp he
  unfold shut
  rw [e1, Bool.true_and]
  cases hE : ent es j with
  | none => rfl
  | some p =>
    obtain ⟨a', b'⟩ := p
    exfalso
    obtain ⟨_, q2, q3, q4, q5⟩ := hr.2 j a' b' hE
    have f : fin ds j = bg ds j + 2 * ms ds j := rfl
    rcases h3 j a' b' (has_lt e1) hE with h | ⟨h, h'⟩
    · rcases e3 with e | ⟨e, _⟩ <;> omega
    · rcases e3 with e | ⟨e, e'⟩ <;> omega
theorem shut_run {k : Nat} (hk : k < ds.length) : shut ds (run ds w t) k = early ds w t k := by
  unfold shut
  rw [ent_run hk]
  by_cases e : k = w
  · rw [if_pos e]
    have h0 : early ds w t k = false := by
      cases h : early ds w t k with
      | false => rfl
      | true => exact absurd e (early_iff.mp h).2.1
    rw [h0]
    by_cases e2 : t - bg ds w - ls ds w ≤ ms ds w
    · rw [if_pos e2]
      exact Bool.and_false _
    · rw [if_neg e2]
      exact Bool.and_false _
  · rw [if_neg e]
    cases h : early ds w t k with
    | true =>
      rw [if_pos rfl, (early_iff.mp h).1]
      rfl
    | false =>
      rw [if_neg (by decide)]
      cases h2 : has ds k with
      | true => rw [if_pos rfl]; rfl
      | false => rfl
theorem out_of (hw : w < ds.length) (h1 : ∃ a b, ent es w = some (a, b) ∧ t = bg ds w + a + b) (h2 : ∀ j a b, j < ds.length → ent es j = some (a, b) → t < bg ds j + a + b ∨ (t = bg ds j + a + b ∧ w ≤ j)) : out ds es = some (w, t) := by
  obtain ⟨a, b, e1, e2⟩ := h1
  have sp := outN_spec (ds := ds) (es := es) ds.length
  unfold out
  cases ho : outN ds es ds.length with
  | none =>
    rw [ho] at sp
    rw [sp w hw] at e1
    cases e1
  | some r =>
    obtain ⟨w', t'⟩ := r
    rw [ho] at sp
    obtain ⟨s1, ⟨a', b', s2, s2'⟩, s3⟩ := sp
    have q1 := h2 w' a' b' s1 s2
    have q2 := s3 w a b hw e1
    have ht : t = t' := by omega
    have hww : w = w' := by omega
    rw [ht, hww]
theorem shut_w (ho : out ds es = some (w, t)) : shut ds es w = false := by
  have sp := outN_spec (ds := ds) (es := es) ds.length
  have ho' : outN ds es ds.length = some (w, t) := ho
  rw [ho'] at sp
  obtain ⟨_, ⟨a, b, h2, _⟩, _⟩ := sp
  unfold shut
  rw [h2]
  exact Bool.and_false _
theorem filter_same {α : Type} : ∀ {l : List α} {p q : α → Bool}, (∀ x ∈ l, p x = true → q x = true) → (l.filter q).length ≤ (l.filter p).length → ∀ x ∈ l, q x = p x
  | [], _, _, _, _, _, hx => nomatch hx
  | y :: l, p, q, h, hl, x, hx => by
    have hm := filter_mono (l := l) fun x hx => h x (List.mem_cons_of_mem _ hx)
    rw [List.filter_cons, List.filter_cons] at hl
    have hy := h y List.mem_cons_self
    cases hp : p y with
    | true =>
      rw [hp, hy hp, if_pos rfl, if_pos rfl] at hl
      rcases List.mem_cons.mp hx with rfl | hx
      · rw [hp, hy hp]
      · exact filter_same (fun x hx => h x (List.mem_cons_of_mem _ hx)) (Nat.le_of_succ_le_succ hl) x hx
    | false =>
      cases hq : q y with
      | true =>
        rw [hp, hq, if_pos rfl, if_neg (by decide)] at hl
        have hl' : (l.filter q).length + 1 ≤ (l.filter p).length := hl
        omega
      | false =>
        rw [hp, hq, if_neg (by decide), if_neg (by decide)] at hl
        rcases List.mem_cons.mp hx with rfl | hx
        · rw [hp, hq]
        · exact filter_same (fun x hx => h x (List.mem_cons_of_mem _ hx)) hl x hx
/-- the run that leaves k silent, too -/
theorem run_less (hf : Fit ds) (hc : can ds z w t = true) (hlt : ((hurs ds w t).length : Int) < z) {k : Nat} (hk : has ds k = true) (hkw : k ≠ w) : ∃ es, es ∈ lim z ds ∧ out ds es = some (w, t) ∧ shut ds es k = true := by
  obtain ⟨r1, r2, r3⟩ := run_of_can hf hc
  have hkl := has_lt hk
  have len : (run ds w t).length = ds.length := r1.1
  have he : ∀ j, ent ((run ds w t).set k none) j = if j = k then none else ent (run ds w t) j := fun j => by
    unfold ent
    by_cases e : j = k
    · subst e
      rw [if_pos rfl, List.getElem?_set_self (by omega)]
      rfl
    · rw [if_neg e, List.getElem?_set_ne (fun z => e z.symm)]
  have sp := outN_spec (ds := ds) (es := run ds w t) ds.length
  have ho' : outN ds (run ds w t) ds.length = some (w, t) := r3
  rw [ho'] at sp
  obtain ⟨s1, ⟨a, b, s2, s2'⟩, s3⟩ := sp
  refine ⟨(run ds w t).set k none, mem_lim.mpr ⟨⟨by rw [List.length_set]; exact len, fun j a b h => ?_⟩, ?_⟩, out_of s1 ⟨a, b, by rw [he, if_neg (fun z => hkw z.symm)]; exact s2, s2'⟩ fun j a b hj h => ?_, ?_⟩
  · rw [he] at h
    by_cases e : j = k
    · rw [if_pos e] at h
      cases h
    · rw [if_neg e] at h
      exact r1.2 j a b h
  · have h1 : qn ds ((run ds w t).set k none) ≤ (hurs ds w t).length + 1 := by
      unfold qn hurs
      have key : ∀ l : List Nat, l.Nodup → (∀ j ∈ l, j < ds.length) → (l.filter (shut ds ((run ds w t).set k none))).length ≤ (l.filter (early ds w t)).length + (if k ∈ l then 1 else 0) := by
        intro l
        induction l with
        | nil => intro _ _; exact Nat.zero_le _
        | cons x l ih =>
          intro hd hl
          have hd' := List.nodup_cons.mp hd
          have ih' := ih hd'.2 fun j hj => hl j (List.mem_cons_of_mem _ hj)
          rw [List.filter_cons, List.filter_cons]
          by_cases e : x = k
          · subst e
            rw [if_neg hd'.1] at ih'
            rw [if_pos List.mem_cons_self]
            have h1 : (if shut ds ((run ds w t).set x none) x = true then x :: List.filter (shut ds ((run ds w t).set x none)) l else List.filter (shut ds ((run ds w t).set x none)) l).length ≤ (List.filter (shut ds ((run ds w t).set x none)) l).length + 1 := by
              split
              · exact Nat.le_refl _
              · exact Nat.le_succ _
            have h2 : (List.filter (early ds w t) l).length ≤ (if early ds w t x = true then x :: List.filter (early ds w t) l else List.filter (early ds w t) l).length := by
              split
              · exact Nat.le_succ _
              · exact Nat.le_refl _
            omega
          · have hs : shut ds ((run ds w t).set k none) x = early ds w t x := by
              rw [← shut_run (w := w) (t := t) (hl x List.mem_cons_self)]
              unfold shut
              rw [he, if_neg e]
            have hm : (if k ∈ x :: l then 1 else 0) = if k ∈ l then 1 else 0 := by
              by_cases h : k ∈ l
              · rw [if_pos h, if_pos (List.mem_cons_of_mem _ h)]
              · rw [if_neg h, if_neg (fun z => (List.mem_cons.mp z).elim (fun q => e q.symm) h)]
            rw [hs, hm]
            split
            · show List.length _ + 1 ≤ List.length _ + 1 + _
              omega
            · exact ih'
      have := key (List.range ds.length) List.nodup_range fun j hj => List.mem_range.mp hj
      rw [if_pos (List.mem_range.mpr hkl)] at this
      exact this
    omega
  · rw [he] at h
    by_cases e : j = k
    · rw [if_pos e] at h
      cases h
    · rw [if_neg e] at h
      exact s3 j a b hj h
  · unfold shut
    rw [he, if_pos rfl, hk]
    rfl
/-- the runs with one outcome -/
def rowsO (ds : List Wd) (z : Int) (w : Nat) (t : Int) : List (List En) := (lim z ds).filter fun es => decide (out ds es = some (w, t))
theorem rows_ne (hf : Fit ds) : rowsO ds z w t ≠ [] ↔ can ds z w t = true := by
  constructor
  · intro h
    cases hr : rowsO ds z w t with
    | nil => exact absurd hr h
    | cons es l =>
      have hm : es ∈ rowsO ds z w t := by rw [hr]; exact List.mem_cons_self
      obtain ⟨h1, h2⟩ := List.mem_filter.mp hm
      obtain ⟨h3, h4⟩ := mem_lim.mp h1
      exact can_of_run h3 h4 (of_decide_eq_true h2)
  · intro h he
    obtain ⟨r1, r2, r3⟩ := run_of_can hf h
    have hm : run ds w t ∈ rowsO ds z w t := List.mem_filter.mpr ⟨mem_lim.mpr ⟨r1, r2⟩, decide_eq_true r3⟩
    rw [he] at hm
    cases hm
def lot (ds : List Wd) (es : List En) : List Nat := (List.range ds.length).filter (shut ds es)
def sureL (ds : List Wd) (rs : List (List En)) : List Nat := (List.range ds.length).filter fun k => decide ((rs.filter fun es => decide (k ∉ lot ds es)) = [])
def someL (ds : List Wd) (rs : List (List En)) : List Nat := (List.range ds.length).filter fun k => decide ((rs.filter fun es => decide (k ∈ lot ds es)) ≠ [])
def after (ds : List Wd) (z : Int) (w : Nat) (t : Int) : List Nat := if ((hurs ds w t).length : Int) = z then hurs ds w t else (plan ds).filter fun j => decide (j ≠ w)
theorem mem_lot {k : Nat} (hk : k < ds.length) : k ∈ lot ds es ↔ shut ds es k = true := by
  unfold lot
  rw [List.mem_filter, List.mem_range]
  exact ⟨fun h => h.2, fun h => ⟨hk, h⟩⟩
theorem sure_is (hf : Fit ds) (hc : can ds z w t = true) : sureL ds (rowsO ds z w t) = hurs ds w t := by
  unfold sureL hurs
  refine List.filter_congr fun k hk => ?_
  have hkl := List.mem_range.mp hk
  rw [Bool.eq_iff_iff, decide_eq_true_eq, List.filter_eq_nil_iff]
  constructor
  · intro h
    obtain ⟨r1, r2, r3⟩ := run_of_can hf hc
    have hm : run ds w t ∈ rowsO ds z w t := List.mem_filter.mpr ⟨mem_lim.mpr ⟨r1, r2⟩, decide_eq_true r3⟩
    have q := h _ hm
    rw [decide_eq_true_eq, Decidable.not_not, mem_lot hkl, shut_run hkl] at q
    exact q
  · intro h es hes
    obtain ⟨h1, h2⟩ := List.mem_filter.mp hes
    rw [decide_eq_true_eq, Decidable.not_not, mem_lot hkl]
    exact early_shut (mem_lim.mp h1).1 (of_decide_eq_true h2) h
theorem some_is (hf : Fit ds) (hc : can ds z w t = true) : someL ds (rowsO ds z w t) = after ds z w t := by
  have hle := (can_iff.mp hc).2.2
  have mem : ∀ k, k < ds.length → (decide ((rowsO ds z w t).filter (fun es => decide (k ∈ lot ds es)) ≠ []) = true ↔ ∃ es, es ∈ lim z ds ∧ out ds es = some (w, t) ∧ shut ds es k = true) := fun k hk => by
    rw [decide_eq_true_eq]
    constructor
    · intro h
      cases hr : (rowsO ds z w t).filter (fun es => decide (k ∈ lot ds es)) with
      | nil => exact absurd hr h
      | cons es l =>
        have hm : es ∈ (rowsO ds z w t).filter (fun es => decide (k ∈ lot ds es)) := by rw [hr]; exact List.mem_cons_self
        obtain ⟨h1, h2⟩ := List.mem_filter.mp hm
        obtain ⟨h3, h4⟩ := List.mem_filter.mp h1
        exact ⟨es, h3, of_decide_eq_true h4, (mem_lot hk).mp (of_decide_eq_true h2)⟩
    · rintro ⟨es, h1, h2, h3⟩ he
      have hm : es ∈ (rowsO ds z w t).filter (fun es => decide (k ∈ lot ds es)) := List.mem_filter.mpr ⟨List.mem_filter.mpr ⟨h1, decide_eq_true h2⟩, decide_eq_true ((mem_lot hk).mpr h3)⟩
      rw [he] at hm
      cases hm
  unfold someL after
  by_cases hz : ((hurs ds w t).length : Int) = z
  · rw [if_pos hz]
    unfold hurs
    refine List.filter_congr fun k hk => ?_
    have hkl := List.mem_range.mp hk
    rw [Bool.eq_iff_iff, mem k hkl]
    constructor
    · rintro ⟨es, h1, h2, h3⟩
      obtain ⟨h4, h5⟩ := mem_lim.mp h1
      have hq : ((List.range ds.length).filter (shut ds es)).length ≤ ((List.range ds.length).filter (early ds w t)).length := by
        have : (qn ds es : Int) ≤ ((hurs ds w t).length : Int) := by omega
        exact Int.ofNat_le.mp this
      rw [← filter_same (fun x _ hx => early_shut h4 h2 hx) hq k hk]
      exact h3
    · intro he
      obtain ⟨r1, r2, r3⟩ := run_of_can hf hc
      exact ⟨_, mem_lim.mpr ⟨r1, r2⟩, r3, by rw [shut_run hkl]; exact he⟩
  · rw [if_neg hz]
    unfold plan
    rw [List.filter_filter]
    refine List.filter_congr fun k hk => ?_
    have hkl := List.mem_range.mp hk
    rw [Bool.eq_iff_iff, mem k hkl, Bool.and_eq_true, decide_eq_true_eq]
    constructor
    · rintro ⟨es, h1, h2, h3⟩
      refine ⟨fun e => ?_, ?_⟩
      · subst e
        rw [shut_w h2] at h3
        cases h3
      · unfold shut at h3
        rw [Bool.and_eq_true] at h3
        exact h3.1
    · rintro ⟨h1, h2⟩
      exact run_less hf hc (by omega) h2 h1
/-! milder races -/
theorem late_mono {ds' : List Wd} {E E' : List Int} {n n' : Nat} {L' : Int} (hp : E.Perm (ends ds)) (hs : E.Pairwise (· ≤ ·)) (hp' : E'.Perm (ends ds')) (hs' : E'.Pairwise (· ≤ ·)) (hl : ds'.length = ds.length) (hn : n ≤ n')
    (h : ∀ j, has ds' j = true → has ds j = true ∧ fin ds j ≤ fin ds' j) (hL : E'[n']? = some L') : ∃ L, E[n]? = some L ∧ L ≤ L' := by
  have k1 := count_le hs' hL
  rw [perm_count hp', ends_count, hl] at k1
  have k2 : ((List.range ds.length).filter fun j => has ds' j && decide (fin ds' j ≤ L')).length ≤ ((List.range ds.length).filter fun j => has ds j && decide (fin ds j ≤ L')).length := filter_mono fun j _ hj => by
    rw [Bool.and_eq_true, decide_eq_true_eq] at hj ⊢
    obtain ⟨h1, h2⟩ := h j hj.1
    exact ⟨h1, by omega⟩
  rw [← ends_count (ds := ds) (fun x => decide (x ≤ L')), ← perm_count hp] at k2
  have k3 := List.length_filter_le (fun x => decide (x ≤ L')) E
  have hlt : n < E.length := by omega
  refine ⟨E[n], List.getElem?_eq_getElem hlt, ?_⟩
  by_cases q : E[n] ≤ L'
  · exact q
  · have k4 := count_lt hs (List.getElem?_eq_getElem hlt)
    have k5 : (E.filter fun x => decide (x ≤ L')).length ≤ (E.filter fun x => decide (x < E[n])).length := filter_mono fun x _ hx => by
      rw [decide_eq_true_eq] at hx ⊢
      omega
    omega
/-! outcomes -/
abbrev Wn := Nat × Int × Int
def hit (m : Int) (q : Wn) : Bool := decide (q.2.1 ≤ m) && decide (m ≤ q.2.2)
def ocN (W : List Wn) (lo : Int) (n : Nat) : List (Int × Nat) := (List.range n).flatMap fun i : Nat => (W.filter (hit (lo + (i : Int)))).map fun q => (lo + (i : Int), q.1)
theorem ocN_succ (W : List Wn) (lo : Int) (n : Nat) : ocN W lo (n + 1) = ocN W lo n ++ (W.filter (hit (lo + (n : Int)))).map fun q => (lo + (n : Int), q.1) := by
  unfold ocN
  rw [List.range_succ, List.flatMap_append]
  simp
def loW (W : List Wn) : Int := L2.mnD 0 (W.map fun q => q.2.1)
def hiW (W : List Wn) : Int := L2.mxD (-1) (W.map fun q => q.2.2)
def ocs (W : List Wn) : List (Int × Nat) := ocN W (loW W) (hiW W + 1 - loW W).toNat
theorem mem_ocs {W : List Wn} {m : Int} {w : Nat} : (m, w) ∈ ocs W ↔ ∃ q ∈ W, q.1 = w ∧ q.2.1 ≤ m ∧ m ≤ q.2.2 := by
  unfold ocs ocN
  rw [List.mem_flatMap]
  constructor
  · rintro ⟨i, hi, h⟩
    obtain ⟨q, hq, e⟩ := List.mem_map.mp h
    obtain ⟨h1, h2⟩ := List.mem_filter.mp hq
    unfold hit at h2
    rw [Bool.and_eq_true, decide_eq_true_eq, decide_eq_true_eq] at h2
    injection e with e1 e2
    subst e1 e2
    exact ⟨q, h1, rfl, h2⟩
  · rintro ⟨q, hq, rfl, h1, h2⟩
    have hne : W ≠ [] := fun z => by rw [z] at hq; cases hq
    have a := (L2.mnD_mem (d := 0) (ns := W.map fun q => q.2.1) (fun z => hne (List.map_eq_nil_iff.mp z))).2 _ (List.mem_map.mpr ⟨q, hq, rfl⟩)
    have b := (L2.mxD_mem (d := -1) (ns := W.map fun q => q.2.2) (fun z => hne (List.map_eq_nil_iff.mp z))).2 _ (List.mem_map.mpr ⟨q, hq, rfl⟩)
    have a' : loW W ≤ q.2.1 := a
    have b' : q.2.2 ≤ hiW W := b
    have e : loW W + (((m - loW W).toNat : Nat) : Int) = m := by omega
    refine ⟨(m - loW W).toNat, List.mem_range.mpr (by omega), List.mem_map.mpr ⟨q, List.mem_filter.mpr ⟨hq, ?_⟩, by rw [e]⟩⟩
    rw [e]
    unfold hit
    rw [decide_eq_true h1, decide_eq_true h2]
    rfl
end K18

set_option Elab.async false
namespace K18
/-! how many runs -/
def qp (ds : List Wd) (es : List En) (i : Nat) : Nat := ((List.range i).filter (shut ds es)).length
def cnt (p : List En → Bool) (l : List (List En)) : Nat := (l.filter p).length
theorem shut_snoc {ds : List Wd} {es : List En} {e : En} {j : Nat} : shut ds (es ++ [e]) j = (has ds j && (if j < es.length then ent es j else if j = es.length then e else none).isNone) := by
  unfold shut
  rw [ent_snoc]
theorem qp_snoc {ds : List Wd} {es : List En} {e : En} : qp ds (es ++ [e]) (es.length + 1) = qp ds es es.length + (if has ds es.length = true ∧ e = none then 1 else 0) := by
  unfold qp
  rw [List.range_succ, List.filter_append, List.length_append]
  congr 1
  · congr 1
    refine List.filter_congr fun j hj => ?_
    rw [shut_snoc, if_pos (List.mem_range.mp hj)]
    rfl
  · rw [List.filter_cons, shut_snoc, if_neg (Nat.lt_irrefl _), if_pos rfl]
    cases has ds es.length <;> cases e <;> simp
theorem cnt_map {f : En → List En} {p : List En → Bool} (l : List En) : cnt p (l.map f) = (l.filter fun e => p (f e)).length := by
  unfold cnt
  rw [List.filter_map, List.length_map]
  rfl
theorem cnt_app {p : List En → Bool} {a b : List (List En)} : cnt p (a ++ b) = cnt p a + cnt p b := by
  unfold cnt
  rw [List.filter_append, List.length_append]
theorem pairs_some {l m : Int} {n : Nat} {e : En} (h : e ∈ pairs l m n) : e ≠ none := by
  obtain ⟨a, b, rfl, _⟩ := mem_pairs.mp h
  exact fun z => nomatch z
theorem cnt_more {ds : List Wd} {d : Wd} {i q : Nat} (hd : ds[i]? = some d) : ∀ {rs : List (List En)}, (∀ es ∈ rs, es.length = i) →
    cnt (fun es => decide (qp ds es (i + 1) = q)) (more rs d) = (if d.1.isSome = true then cnt (fun es => decide (qp ds es i = q)) rs * ((d.2.2 + 1 - d.2.1).toNat * (d.2.2 + 1 - d.2.1).toNat) + cnt (fun es => decide (qp ds es i + 1 = q)) rs else cnt (fun es => decide (qp ds es i = q)) rs)
  | [], _ => by
    unfold more cnt
    cases d.1.isSome <;> simp
  | es :: rs, h => by
    have ih := cnt_more (q := q) hd (rs := rs) fun e he => h e (List.mem_cons_of_mem _ he)
    have hl := h es List.mem_cons_self
    have e1 : more (es :: rs) d = ((ents d).map fun e => es ++ [e]) ++ more rs d := by
      unfold more
      rw [List.flatMap_cons]
    have hh : has ds i = d.1.isSome := by
      unfold has
      rw [hd]
    rw [e1, cnt_app, ih, cnt_map]
    have e2 : ∀ e, qp ds (es ++ [e]) (i + 1) = qp ds es i + (if d.1.isSome = true ∧ e = none then 1 else 0) := fun e => by
      have := qp_snoc (ds := ds) (es := es) (e := e)
      rw [hl, hh] at this
      exact this
    have e3 : ∀ r : Nat, cnt (fun es => decide (qp ds es i = r)) (es :: rs) = (if qp ds es i = r then 1 else 0) + cnt (fun es => decide (qp ds es i = r)) rs := fun r => by
      unfold cnt
      rw [List.filter_cons]
      by_cases hq : qp ds es i = r
      · simp [hq]; omega
      · simp [hq]
    have e4 : cnt (fun es => decide (qp ds es i + 1 = q)) (es :: rs) = (if qp ds es i + 1 = q then 1 else 0) + cnt (fun es => decide (qp ds es i + 1 = q)) rs := by
      unfold cnt
      rw [List.filter_cons]
      by_cases hq : qp ds es i + 1 = q
      · simp [hq]; omega
      · simp [hq]
    rw [e3, e4]
    cases hs : d.1.isSome with
    | false =>
      rw [if_neg (by decide), if_neg (by decide)]
      have : ((ents d).filter fun e => decide (qp ds (es ++ [e]) (i + 1) = q)).length = if qp ds es i = q then 1 else 0 := by
        unfold ents
        rw [hs, if_neg (by decide), List.filter_cons, e2, hs]
        by_cases hq : qp ds es i = q <;> simp [hq]
      rw [this]
    | true =>
      rw [if_pos rfl, if_pos rfl]
      have : ((ents d).filter fun e => decide (qp ds (es ++ [e]) (i + 1) = q)).length = (if qp ds es i + 1 = q then 1 else 0) + (if qp ds es i = q then (d.2.2 + 1 - d.2.1).toNat * (d.2.2 + 1 - d.2.1).toNat else 0) := by
        unfold ents
        rw [hs, if_pos rfl, List.filter_cons, e2, hs]
        have e5 : ((pairs d.2.1 d.2.2 (d.2.2 + 1 - d.2.1).toNat).filter fun e => decide (qp ds (es ++ [e]) (i + 1) = q)) = (pairs d.2.1 d.2.2 (d.2.2 + 1 - d.2.1).toNat).filter fun _ => decide (qp ds es i = q) := List.filter_congr fun e he => by
          rw [e2, if_neg (fun z => pairs_some he z.2)]
          rfl
        rw [e5]
        have e6 : ((pairs d.2.1 d.2.2 (d.2.2 + 1 - d.2.1).toNat).filter fun _ => decide (qp ds es i = q)).length = if qp ds es i = q then (d.2.2 + 1 - d.2.1).toNat * (d.2.2 + 1 - d.2.1).toNat else 0 := by
          by_cases hq : qp ds es i = q
          · rw [decide_eq_true hq, if_pos hq, List.filter_eq_self.mpr (fun _ _ => rfl), pairs_len]
          · rw [decide_eq_false hq, if_neg hq]
            simp
        rw [show (if (true = true ∧ (none : En) = none) then 1 else 0) = 1 from if_pos ⟨rfl, rfl⟩]
        by_cases hq : qp ds es i + 1 = q
        · rw [decide_eq_true hq, if_pos rfl, List.length_cons, e6, if_pos hq]
          omega
        · rw [decide_eq_false hq, if_neg (by decide), e6, if_neg hq]
          omega
      rw [this, Nat.add_mul]
      by_cases hq : qp ds es i = q
      · rw [if_pos hq, if_pos hq, Nat.one_mul]
        omega
      · rw [if_neg hq, if_neg hq, Nat.zero_mul]
        omega
def nq (ds : List Wd) (i q : Nat) : Nat := cnt (fun es => decide (qp ds es i = q)) (rns ds i)
theorem nq_zero (ds : List Wd) (q : Nat) : nq ds 0 q = if q = 0 then 1 else 0 := by
  show cnt (fun es => decide (qp ds es 0 = q)) [[]] = _
  unfold cnt
  rw [List.filter_cons]
  by_cases h : q = 0
  · subst h
    rw [if_pos rfl, if_pos (show decide (qp ds [] 0 = 0) = true from rfl)]
    rfl
  · rw [if_neg h, if_neg (fun z => h (of_decide_eq_true z).symm)]
    rfl
def wid (ds : List Wd) (i : Nat) : Int := ms ds i - ls ds i + 1
theorem nq_succ {ds : List Wd} {i q : Nat} (hf : Fit ds) (hi : i < ds.length) : (nq ds (i + 1) q : Int) = if has ds i = true then (nq ds i q : Int) * wid ds i * wid ds i + (if q = 0 then 0 else (nq ds i (q - 1) : Int)) else (nq ds i q : Int) := by
  obtain ⟨d, hd⟩ : ∃ d, ds[i]? = some d := ⟨_, List.getElem?_eq_getElem hi⟩
  have e : rns ds (i + 1) = more (rns ds i) d := by
    show (match ds[i]? with | some d => more (rns ds i) d | none => rns ds i) = _
    rw [hd]
  have hh : has ds i = d.1.isSome := by
    unfold has
    rw [hd]
  have hm : ms ds i = d.2.2 := by
    unfold ms
    rw [hd]
  have hl : ls ds i = d.2.1 := by
    unfold ls
    rw [hd]
  unfold nq
  rw [e, cnt_more hd fun es hes => ((mem_rns (Nat.le_of_lt hi)).mp hes).1, hh]
  cases hs : d.1.isSome with
  | false => rw [if_neg (by decide), if_neg (by decide)]
  | true =>
    rw [if_pos rfl, if_pos rfl]
    have h1 := hf i (by rw [hh, hs])
    rw [hm, hl] at h1
    have hw : ((d.2.2 + 1 - d.2.1).toNat : Int) = wid ds i := by
      unfold wid
      rw [hm, hl]
      omega
    rw [Int.natCast_add, Int.natCast_mul, Int.natCast_mul, hw, Int.mul_assoc]
    congr 1
    by_cases hq : q = 0
    · rw [if_pos hq]
      have : cnt (fun es => decide (qp ds es i + 1 = q)) (rns ds i) = 0 := by
        unfold cnt
        rw [List.filter_eq_nil_iff.mpr fun es _ => by rw [decide_eq_true_eq]; omega]
        rfl
      rw [this]
      rfl
    · rw [if_neg hq]
      congr 2
      funext es
      exact decide_eq_decide.mpr ⟨fun z => by omega, fun z => by omega⟩
/-- the row of counts, as the program keeps it -/
def cts (ds : List Wd) (z i : Nat) : List Int := (List.range (z + 1)).map fun q => (nq ds i q : Int)
def stepC (c : Int) (cs : List Int) : List Int := List.zipWith (fun h s => h * c * c + s) cs (0 :: cs.dropLast)
theorem cts_zero (ds : List Wd) (z : Nat) : cts ds z 0 = 1 :: List.replicate z 0 := by
  unfold cts
  rw [List.range_succ_eq_map, List.map_cons, nq_zero, if_pos rfl, List.map_map]
  congr 1
  refine List.eq_replicate_iff.mpr ⟨by rw [List.length_map, List.length_range], fun x hx => ?_⟩
  obtain ⟨q, _, rfl⟩ := List.mem_map.mp hx
  show (nq ds 0 (q + 1) : Int) = 0
  rw [nq_zero, if_neg (by omega)]
  rfl
theorem cts_get {ds : List Wd} {z i q : Nat} (h : q ≤ z) : (cts ds z i)[q]? = some (nq ds i q : Int) := by
  unfold cts
  rw [List.getElem?_map, List.getElem?_range (by omega)]
  rfl
theorem cts_succ {ds : List Wd} {z i : Nat} (hf : Fit ds) (hi : i < ds.length) : cts ds z (i + 1) = if has ds i = true then stepC (wid ds i) (cts ds z i) else cts ds z i := by
  cases hs : has ds i with
  | false =>
    rw [if_neg (by decide)]
    unfold cts
    refine List.map_congr_left fun q _ => ?_
    rw [nq_succ hf hi, hs, if_neg (by decide)]
  | true =>
    rw [if_pos rfl]
    have hlen : (cts ds z i).length = z + 1 := by
      unfold cts
      rw [List.length_map, List.length_range]
    refine List.ext_getElem? fun q => ?_
    by_cases hq : q ≤ z
    · rw [cts_get hq]
      unfold stepC
      rw [List.getElem?_zipWith, cts_get hq]
      cases q with
      | zero =>
        rw [List.getElem?_cons_zero, nq_succ hf hi, hs, if_pos rfl, if_pos rfl]
      | succ q =>
        rw [List.getElem?_cons_succ, List.getElem?_dropLast, hlen, if_pos (by omega), cts_get (by omega), nq_succ hf hi, hs, if_pos rfl, if_neg (by omega)]
        rfl
    · rw [List.getElem?_eq_none (by unfold cts; rw [List.length_map, List.length_range]; omega), List.getElem?_eq_none]
      unfold stepC
      rw [List.length_zipWith, hlen]
      omega
theorem foldl_plan {α : Type} (ds : List Wd) (f : α → Nat → α) (a : α) (g : Nat → α) (h0 : g 0 = a) (h : ∀ i, i < ds.length → g (i + 1) = if has ds i = true then f (g i) i else g i) : (plan ds).foldl f a = g ds.length := by
  unfold plan
  have : ∀ n, n ≤ ds.length → ((List.range n).filter (has ds)).foldl f a = g n := fun n => by
    induction n with
    | zero => exact fun _ => h0.symm
    | succ n ih =>
      intro hn
      rw [List.range_succ, List.filter_append, List.foldl_append, ih (by omega), h n (by omega), List.filter_cons]
      cases has ds n <;> rfl
  exact this _ (Nat.le_refl _)
theorem cts_plan {ds : List Wd} {z : Nat} (hf : Fit ds) : (plan ds).foldl (fun cs j => stepC (wid ds j) cs) (1 :: List.replicate z 0) = cts ds z ds.length :=
  foldl_plan ds _ _ (cts ds z) (cts_zero ds z) fun _ hi => cts_succ hf hi
theorem out_plan {ds : List Wd} {es : List En} (hr : Run ds es) : (plan ds).foldl (step ds es) none = out ds es :=
  foldl_plan ds _ _ (outN ds es) rfl fun i _ => by
    cases hs : has ds i with
    | true => rfl
    | false =>
      rw [if_neg (by decide)]
      show step ds es (outN ds es i) i = _
      unfold step
      cases he : ent es i with
      | none => rfl
      | some p =>
        obtain ⟨a, b⟩ := p
        have := (hr.2 i a b he).1
        rw [hs] at this
        cases this
theorem sum_cts {ds : List Wd} : ∀ z : Nat, (cts ds z ds.length).sum = ((lim (z : Int) ds).length : Int) := by
  have h1 : ∀ z : Nat, (cts ds z ds.length).sum = (cnt (fun es => decide (qp ds es ds.length ≤ z)) (rns ds ds.length) : Int) := fun z => by
    induction z with
    | zero =>
      show (nq ds ds.length 0 : Int) + (0 : Int) = _
      rw [Int.add_zero]
      unfold nq
      congr 2
      funext es
      exact decide_eq_decide.mpr ⟨fun h => by omega, fun h => by omega⟩
    | succ z ih =>
      have : cts ds (z + 1) ds.length = cts ds z ds.length ++ [(nq ds ds.length (z + 1) : Int)] := by
        unfold cts
        rw [List.range_succ (n := z + 1), List.map_append]
        rfl
      rw [this, List.sum_append, ih]
      show (cnt _ _ : Int) + ((nq ds ds.length (z + 1) : Int) + 0) = _
      rw [Int.add_zero]
      rw [← Int.natCast_add]
      congr 1
      unfold nq cnt
      induction rns ds ds.length with
      | nil => rfl
      | cons es l ih =>
        simp only [List.filter_cons]
        by_cases a1 : qp ds es ds.length ≤ z
        · rw [decide_eq_true a1, decide_eq_false (show ¬ qp ds es ds.length = z + 1 by omega), decide_eq_true (show qp ds es ds.length ≤ z + 1 by omega)]
          simp only [if_true, if_false, List.length_cons]
          simp
          omega
        · by_cases a2 : qp ds es ds.length = z + 1
          · rw [decide_eq_false a1, decide_eq_true a2, decide_eq_true (show qp ds es ds.length ≤ z + 1 by omega)]
            simp only [if_true, List.length_cons]
            simp
            omega
          · rw [decide_eq_false a1, decide_eq_false a2, decide_eq_false (show ¬ qp ds es ds.length ≤ z + 1 by omega)]
            simpa using ih
  intro z
  rw [h1]
  unfold lim cnt
  congr 2
  refine List.filter_congr fun es _ => ?_
  show decide (qn ds es ≤ z) = _
  exact decide_eq_decide.mpr ⟨fun h => by omega, fun h => by omega⟩
end K18

set_option Elab.async false
namespace K18
/-! the race played moment by moment -/
abbrev Sm := List (Int × Nat) × List Nat
def simStep (ds : List Wd) (es : List En) (m : Int) (s : Sm) (w : Nat) : Sm :=
  if (has ds w && decide (bg ds w = m)) = true ∧ (s.1.any fun p => decide (p.1 ≤ m)) = false then (match ent es w with | none => s.1 | some (a, b) => s.1 ++ [(m + (a + b), w)], s.2 ++ [w]) else s
def simW (ds : List Wd) (es : List En) (m : Int) (s : Sm) (n : Nat) : Sm := (List.range n).foldl (simStep ds es m) s
def sim (ds : List Wd) (es : List En) (n : Nat) : Sm := (List.range n).foldl (fun (s : Sm) (m : Nat) => simW ds es (m : Int) s ds.length) ([], [])
theorem simW_succ {ds : List Wd} {es : List En} {m : Int} {s : Sm} {n : Nat} : simW ds es m s (n + 1) = simStep ds es m (simW ds es m s n) n := by
  unfold simW
  rw [List.range_succ, List.foldl_append]
  rfl
theorem sim_succ {ds : List Wd} {es : List En} {n : Nat} : sim ds es (n + 1) = simW ds es (n : Int) (sim ds es n) ds.length := by
  unfold sim
  rw [List.range_succ, List.foldl_append]
  rfl
def bef (o : Option (Nat × Int)) (m : Int) : Bool := match o with | none => true | some (_, t) => decide (m < t)
def sentL (ds : List Wd) (es : List En) : List Nat := (plan ds).filter fun v => bef (out ds es) (bg ds v)
structure Inv (ds : List Wd) (es : List En) (m : Int) (w : Nat) (s : Sm) : Prop where
  gone : ∀ v, v ∈ s.2 ↔ has ds v = true ∧ bef (out ds es) (bg ds v) = true ∧ (bg ds v < m ∨ (bg ds v = m ∧ v < w))
  ans : ∀ p, p ∈ s.1 ↔ ∃ v a b, v ∈ s.2 ∧ ent es v = some (a, b) ∧ p = (bg ds v + (a + b), v)
  len : s.1.length ≤ s.2.length
def Pos (ds : List Wd) : Prop := ∀ j, has ds j = true → 0 ≤ bg ds j ∧ bg ds j ≤ 4 ∧ 1 ≤ ls ds j
theorem out_none {ds : List Wd} {es : List En} (hr : Run ds es) (h : out ds es = none) (j : Nat) : ent es j = none := by
  by_cases q : j < ds.length
  · have sp := outN_spec (ds := ds) (es := es) ds.length
    have ho' : outN ds es ds.length = none := h
    rw [ho'] at sp
    exact sp j q
  · exact ent_none (by rw [hr.1]; omega)
theorem out_some {ds : List Wd} {es : List En} {k : Nat} {t : Int} (hr : Run ds es) (h : out ds es = some (k, t)) : (∃ a b, ent es k = some (a, b) ∧ t = bg ds k + (a + b)) ∧ ∀ j a b, ent es j = some (a, b) → t < bg ds j + (a + b) ∨ (t = bg ds j + (a + b) ∧ k ≤ j) := by
  have sp := outN_spec (ds := ds) (es := es) ds.length
  have ho' : outN ds es ds.length = some (k, t) := h
  rw [ho'] at sp
  obtain ⟨_, ⟨a, b, h1, h2⟩, h3⟩ := sp
  refine ⟨⟨a, b, h1, by omega⟩, fun j a b he => ?_⟩
  have hj : j < ds.length := has_lt (hr.2 j a b he).1
  have := h3 j a b hj he
  omega
theorem any_bef {ds : List Wd} {es : List En} {m : Int} {w : Nat} {s : Sm} (hr : Run ds es) (hp : Pos ds) (i : Inv ds es m w s) : (s.1.any fun p => decide (p.1 ≤ m)) = !bef (out ds es) m := by
  rw [Bool.eq_iff_iff, List.any_eq_true]
  cases ho : out ds es with
  | none =>
    refine ⟨fun ⟨p, h, _⟩ => ?_, fun h => by cases h⟩
    obtain ⟨v, a, b, _, he, _⟩ := (i.ans p).mp h
    rw [out_none hr ho v] at he
    cases he
  | some km =>
    obtain ⟨k, t⟩ := km
    obtain ⟨⟨a, b, h1, h2⟩, h3⟩ := out_some hr ho
    show _ ↔ (!decide (m < t)) = true
    rw [Bool.not_eq_true', decide_eq_false_iff_not]
    constructor
    · rintro ⟨p, h, hm⟩
      obtain ⟨v, a', b', _, he, rfl⟩ := (i.ans p).mp h
      have := h3 v a' b' he
      have hm := of_decide_eq_true hm
      dsimp only at hm
      omega
    · intro h
      obtain ⟨g1, g2, g3, g4, g5⟩ := hr.2 k a b h1
      obtain ⟨p1, p2, p3⟩ := hp k g1
      refine ⟨(bg ds k + (a + b), k), (i.ans _).mpr ⟨k, a, b, (i.gone k).mpr ⟨g1, ?_, .inl (by omega)⟩, h1, rfl⟩, decide_eq_true (by dsimp only; omega)⟩
      rw [ho]
      exact decide_eq_true (by omega)
theorem inv_step {ds : List Wd} {es : List En} {m : Int} {w : Nat} {s : Sm} (hr : Run ds es) (hp : Pos ds) (i : Inv ds es m w s) : Inv ds es m (w + 1) (simStep ds es m s w) := by
  unfold simStep
  by_cases hc : (has ds w && decide (bg ds w = m)) = true ∧ (s.1.any fun p => decide (p.1 ≤ m)) = false
  · rw [if_pos hc]
    obtain ⟨c1, c2⟩ := hc
    rw [any_bef hr hp i] at c2
    rw [Bool.and_eq_true, decide_eq_true_eq] at c1
    obtain ⟨c1, c3⟩ := c1
    have hb : bef (out ds es) (bg ds w) = true := by
      rw [c3]
      cases hq : bef (out ds es) m with
      | true => rfl
      | false => rw [hq] at c2; cases c2
    have hg : ∀ v, v ∈ s.2 ++ [w] ↔ has ds v = true ∧ bef (out ds es) (bg ds v) = true ∧ (bg ds v < m ∨ (bg ds v = m ∧ v < w + 1)) := fun v => by
      rw [List.mem_append, List.mem_singleton, i.gone]
      constructor
      · rintro (⟨h1, h2, h3⟩ | rfl)
        · exact ⟨h1, h2, by omega⟩
        · exact ⟨c1, hb, by omega⟩
      · rintro ⟨h1, h2, h3⟩
        by_cases e : v = w
        · exact .inr e
        · exact .inl ⟨h1, h2, by omega⟩
    cases he : ent es w with
    | none =>
      refine ⟨hg, fun p => ?_, ?_⟩
      · show p ∈ s.1 ↔ _
        rw [i.ans]
        constructor
        · rintro ⟨v, a, b, h1, h2, h3⟩
          exact ⟨v, a, b, List.mem_append_left _ h1, h2, h3⟩
        · rintro ⟨v, a, b, h1, h2, h3⟩
          rcases List.mem_append.mp h1 with h | h
          · exact ⟨v, a, b, h, h2, h3⟩
          · rw [List.mem_singleton.mp h, he] at h2
            cases h2
      · show s.1.length ≤ (s.2 ++ [w]).length
        rw [List.length_append]
        have := i.len
        omega
    | some q =>
      obtain ⟨a, b⟩ := q
      refine ⟨hg, fun p => ?_, ?_⟩
      · show p ∈ s.1 ++ [(m + (a + b), w)] ↔ _
        rw [List.mem_append, List.mem_singleton, i.ans]
        constructor
        · rintro (⟨v, a, b, h1, h2, h3⟩ | rfl)
          · exact ⟨v, a, b, List.mem_append_left _ h1, h2, h3⟩
          · exact ⟨w, a, b, List.mem_append_right _ (List.mem_singleton.mpr rfl), he, by rw [c3]⟩
        · rintro ⟨v, a', b', h1, h2, h3⟩
          rcases List.mem_append.mp h1 with h | h
          · exact .inl ⟨v, a', b', h, h2, h3⟩
          · rw [List.mem_singleton.mp h] at h2 h3
            rw [he] at h2
            cases h2
            exact .inr (by rw [h3, c3])
      · show (s.1 ++ [(m + (a + b), w)]).length ≤ (s.2 ++ [w]).length
        rw [List.length_append, List.length_append]
        have := i.len
        simp
        omega
  · rw [if_neg hc]
    refine ⟨fun v => ?_, i.ans, i.len⟩
    rw [i.gone]
    constructor
    · rintro ⟨h1, h2, h3⟩
      exact ⟨h1, h2, by omega⟩
    · rintro ⟨h1, h2, h3⟩
      refine ⟨h1, h2, ?_⟩
      by_cases e : v = w ∧ bg ds v = m
      · obtain ⟨rfl, e⟩ := e
        refine absurd ⟨?_, ?_⟩ hc
        · rw [h1, decide_eq_true e]
          rfl
        · rw [any_bef hr hp i, ← e, h2]
          rfl
      · omega
theorem inv_w {ds : List Wd} {es : List En} {m : Int} {s : Sm} (hr : Run ds es) (hp : Pos ds) (i : Inv ds es m 0 s) : ∀ n, Inv ds es m n (simW ds es m s n)
  | 0 => i
  | n + 1 => by
    rw [simW_succ]
    exact inv_step hr hp (inv_w hr hp i n)
theorem inv_next {ds : List Wd} {es : List En} {m : Int} {s : Sm} (i : Inv ds es m ds.length s) : Inv ds es (m + 1) 0 s := by
  refine ⟨fun v => ?_, i.ans, i.len⟩
  rw [i.gone]
  constructor
  · rintro ⟨h1, h2, h3⟩
    exact ⟨h1, h2, by omega⟩
  · rintro ⟨h1, h2, h3⟩
    have := has_lt h1
    exact ⟨h1, h2, by omega⟩
theorem inv_sim {ds : List Wd} {es : List En} (hr : Run ds es) (hp : Pos ds) : ∀ n : Nat, Inv ds es (n : Int) 0 (sim ds es n)
  | 0 => ⟨fun v => ⟨fun h => (nomatch h), fun ⟨h1, h2, h3⟩ => by
      have := hp v h1
      omega⟩, fun p => ⟨fun h => (nomatch h), fun ⟨v, a, b, h, _⟩ => nomatch h⟩, Nat.le_refl _⟩
  | n + 1 => by
    rw [sim_succ]
    have := inv_next (inv_w hr hp (inv_sim hr hp n) ds.length)
    rw [show ((n + 1 : Nat) : Int) = (n : Int) + 1 from rfl]
    exact this
theorem simS_len {ds : List Wd} {es : List En} {m : Int} {s : Sm} {w : Nat} : (simStep ds es m s w).2.length ≤ s.2.length + 1 := by
  unfold simStep
  by_cases hc : (has ds w && decide (bg ds w = m)) = true ∧ (s.1.any fun p => decide (p.1 ≤ m)) = false
  · rw [if_pos hc, List.length_append]
    exact Nat.le_refl _
  · rw [if_neg hc]
    omega
theorem simW_len {ds : List Wd} {es : List En} {m : Int} {s : Sm} : ∀ n, (simW ds es m s n).2.length ≤ s.2.length + n
  | 0 => Nat.le_refl _
  | n + 1 => by
    rw [simW_succ]
    have h1 := simS_len (ds := ds) (es := es) (m := m) (s := simW ds es m s n) (w := n)
    have h2 := simW_len (ds := ds) (es := es) (m := m) (s := s) n
    omega
theorem sim_len {ds : List Wd} {es : List En} : ∀ n, (sim ds es n).2.length ≤ n * ds.length
  | 0 => Nat.zero_le _
  | n + 1 => by
    rw [sim_succ, Nat.succ_mul]
    exact Nat.le_trans (simW_len _) (Nat.add_le_add_right (sim_len n) _)
theorem gone_is {ds : List Wd} {es : List En} (hr : Run ds es) (hp : Pos ds) : (List.range ds.length).filter (fun v => decide (v ∈ (sim ds es 5).2)) = sentL ds es := by
  unfold sentL plan
  rw [List.filter_filter]
  refine List.filter_congr fun v hv => ?_
  rw [Bool.eq_iff_iff, decide_eq_true_eq, (inv_sim hr hp 5).gone, Bool.and_eq_true]
  constructor
  · rintro ⟨h1, h2, _⟩
    exact ⟨h2, h1⟩
  · rintro ⟨h1, h2⟩
    have := hp v h2
    exact ⟨h2, h1, .inl (by omega)⟩
theorem ans_nil {ds : List Wd} {es : List En} (hr : Run ds es) (hp : Pos ds) : (sim ds es 5).1 = [] ↔ out ds es = none := by
  constructor
  · intro h
    cases ho : out ds es with
    | none => rfl
    | some km =>
      obtain ⟨k, t⟩ := km
      obtain ⟨⟨a, b, h1, h2⟩, h3⟩ := out_some hr ho
      obtain ⟨g1, g2, g3, g4, g5⟩ := hr.2 k a b h1
      obtain ⟨p1, p2, p3⟩ := hp k g1
      have : (bg ds k + (a + b), k) ∈ (sim ds es 5).1 := ((inv_sim hr hp 5).ans _).mpr ⟨k, a, b, ((inv_sim hr hp 5).gone k).mpr ⟨g1, by rw [ho]; exact decide_eq_true (by omega), .inl (by omega)⟩, h1, rfl⟩
      rw [h] at this
      cases this
  · intro ho
    refine List.eq_nil_iff_forall_not_mem.mpr fun p h => ?_
    obtain ⟨v, a, b, _, he, _⟩ := ((inv_sim hr hp 5).ans p).mp h
    rw [out_none hr ho v] at he
    cases he
def lt2 (p q : Int × Nat) : Bool := decide (p.1 < q.1 ∨ (p.1 = q.1 ∧ p.2 < q.2))
theorem ans_min {ds : List Wd} {es : List En} {k : Nat} {t : Int} (hr : Run ds es) (hp : Pos ds) (ho : out ds es = some (k, t)) : (t, k) ∈ (sim ds es 5).1 ∧ ∀ p ∈ (sim ds es 5).1, lt2 p (t, k) = false := by
  obtain ⟨⟨a, b, h1, h2⟩, h3⟩ := out_some hr ho
  obtain ⟨g1, g2, g3, g4, g5⟩ := hr.2 k a b h1
  obtain ⟨p1, p2, p3⟩ := hp k g1
  refine ⟨((inv_sim hr hp 5).ans _).mpr ⟨k, a, b, ((inv_sim hr hp 5).gone k).mpr ⟨g1, by rw [ho]; exact decide_eq_true (by omega), .inl (by omega)⟩, h1, by rw [h2]⟩, fun p h => ?_⟩
  obtain ⟨v, a', b', _, he, rfl⟩ := ((inv_sim hr hp 5).ans p).mp h
  have := h3 v a' b' he
  unfold lt2
  rw [decide_eq_false_iff_not]
  dsimp only
  omega
def minF (l : List (Int × Nat)) (f : Int × Nat) : Int × Nat := l.foldl (fun f p => if lt2 p f = true then p else f) f
theorem min_is {q : Int × Nat} : ∀ {l : List (Int × Nat)} {f : Int × Nat}, (∀ p ∈ l, lt2 p q = false) → (f = q ∨ (q ∈ l ∧ lt2 f q = false)) → minF l f = q
  | [], f, _, h => by
    rcases h with h | h
    · exact h
    · cases h.1
  | p :: l, f, h, hf => by
    show minF l (if lt2 p f = true then p else f) = q
    have hp := h p List.mem_cons_self
    refine min_is (fun x hx => h x (List.mem_cons_of_mem _ hx)) ?_
    rcases hf with rfl | ⟨h1, h2⟩
    · rw [hp]
      exact .inl rfl
    · rcases List.mem_cons.mp h1 with rfl | h1
      · by_cases e : lt2 q f = true
        · rw [if_pos e]
          exact .inl rfl
        · rw [if_neg e]
          left
          unfold lt2 at e h2
          rw [decide_eq_true_eq] at e
          rw [decide_eq_false_iff_not] at h2
          obtain ⟨q1, q2⟩ := q
          obtain ⟨f1, f2⟩ := f
          dsimp only at e h2
          rw [show f1 = q1 by omega, show f2 = q2 by omega]
      · refine .inr ⟨h1, ?_⟩
        by_cases e : lt2 p f = true
        · rw [if_pos e]
          exact hp
        · rw [if_neg e]
          exact h2
/-! the outcomes rise -/
theorem ocN_lt {W : List Wn} {lo : Int} (hw : W.Pairwise fun a b => a.1 < b.1) : ∀ n, (ocN W lo n).Pairwise (fun p q => lt2 p q = true) ∧ ∀ p ∈ ocN W lo n, p.1 < lo + (n : Int)
  | 0 => ⟨List.Pairwise.nil, fun p h => nomatch h⟩
  | n + 1 => by
    obtain ⟨h1, h2⟩ := ocN_lt hw n
    rw [ocN_succ]
    refine ⟨List.pairwise_append.mpr ⟨h1, ?_, fun p hp q hq => ?_⟩, fun p hp => ?_⟩
    · rw [List.pairwise_map]
      refine (hw.filter _).imp fun h => ?_
      exact decide_eq_true (.inr ⟨rfl, h⟩)
    · obtain ⟨x, _, rfl⟩ := List.mem_map.mp hq
      exact decide_eq_true (.inl (h2 p hp))
    · rcases List.mem_append.mp hp with h | h
      · have := h2 p h
        omega
      · obtain ⟨x, _, rfl⟩ := List.mem_map.mp h
        dsimp only
        omega
theorem lt2_irr (p : Int × Nat) : lt2 p p = false := by
  unfold lt2
  rw [decide_eq_false_iff_not]
  omega
theorem ocs_lt {W : List Wn} (hw : W.Pairwise fun a b => a.1 < b.1) : (ocs W).Pairwise (fun p q => lt2 p q = true) ∧ (ocs W).Nodup := by
  have h := (ocN_lt (lo := loW W) hw (hiW W + 1 - loW W).toNat).1
  refine ⟨h, ?_⟩
  rw [List.nodup_iff_pairwise_ne]
  exact h.imp fun h e => by
    rw [e, lt2_irr] at h
    cases h
/-! what came, each once -/
def came1 (acc : List (Int × Nat)) (o : Option (Nat × Int)) : List (Int × Nat) := match o with
  | none => acc
  | some (w, t) => if (t, w) ∈ acc then acc else acc ++ [(t, w)]
def cameL (os : List (Option (Nat × Int))) : List (Int × Nat) := os.foldl came1 []
theorem cameL_snoc {os : List (Option (Nat × Int))} {o : Option (Nat × Int)} : cameL (os ++ [o]) = came1 (cameL os) o := by
  unfold cameL
  rw [List.foldl_append]
  rfl
theorem came_facts : ∀ {os : List (Option (Nat × Int))} {acc : List (Int × Nat)}, acc.Nodup → (os.foldl came1 acc).Nodup ∧ ∀ t w, (t, w) ∈ os.foldl came1 acc ↔ (t, w) ∈ acc ∨ some (w, t) ∈ os
  | [], acc, h => ⟨h, fun t w => ⟨.inl, fun q => q.elim id fun z => nomatch z⟩⟩
  | o :: os, acc, h => by
    have hs : (came1 acc o).Nodup ∧ ∀ t w, (t, w) ∈ came1 acc o ↔ (t, w) ∈ acc ∨ o = some (w, t) := by
      cases o with
      | none => exact ⟨h, fun t w => ⟨.inl, fun q => q.elim id fun z => nomatch z⟩⟩
      | some km =>
        obtain ⟨k, m⟩ := km
        unfold came1
        by_cases hm : (m, k) ∈ acc
        · dsimp only
          rw [if_pos hm]
          refine ⟨h, fun t w => ⟨.inl, fun q => q.elim id fun z => ?_⟩⟩
          cases z
          exact hm
        · dsimp only
          rw [if_neg hm]
          refine ⟨List.nodup_append.mpr ⟨h, List.nodup_cons.mpr ⟨(fun z => nomatch z), List.nodup_nil⟩, fun a ha b hb e => hm (by rw [← List.mem_singleton.mp hb, ← e]; exact ha)⟩, fun t w => ?_⟩
          rw [List.mem_append, List.mem_singleton]
          constructor
          · rintro (q | q)
            · exact .inl q
            · cases q
              exact .inr rfl
          · rintro (q | q)
            · exact .inl q
            · cases q
              exact .inr rfl
    obtain ⟨h1, h2⟩ := came_facts (os := os) hs.1
    refine ⟨h1, fun t w => ?_⟩
    show (t, w) ∈ os.foldl came1 (came1 acc o) ↔ _
    rw [h2, hs.2, List.mem_cons]
    constructor
    · rintro ((q | q) | q)
      · exact .inl q
      · exact .inr (.inl q.symm)
      · exact .inr (.inr q)
    · rintro (q | q | q)
      · exact .inl (.inl q)
      · exact .inl (.inr q.symm)
      · exact .inr q
theorem mem_came {os : List (Option (Nat × Int))} {t : Int} {w : Nat} : (t, w) ∈ cameL os ↔ some (w, t) ∈ os := by
  unfold cameL
  rw [(came_facts List.nodup_nil).2]
  exact ⟨fun q => q.elim (fun z => nomatch z) id, .inr⟩
theorem came_nodup {os : List (Option (Nat × Int))} : (cameL os).Nodup := (came_facts List.nodup_nil).1
theorem came_len : ∀ {os : List (Option (Nat × Int))} {acc : List (Int × Nat)}, (os.foldl came1 acc).length ≤ acc.length + os.length
  | [], _ => Nat.le_refl _
  | o :: os, acc => by
    have h : (came1 acc o).length ≤ acc.length + 1 := by
      unfold came1
      cases o with
      | none => exact Nat.le_succ _
      | some km =>
        dsimp only
        split
        · exact Nat.le_succ _
        · rw [List.length_append]
          exact Nat.le_refl _
    have := came_len (os := os) (acc := came1 acc o)
    show (os.foldl came1 (came1 acc o)).length ≤ _
    rw [List.length_cons]
    omega
end K18

set_option Elab.async false
namespace K18
/-! all runs, by a stack: plain mathematics -/
def prsW (d : Wd) : List En := pairs d.2.1 d.2.2 (d.2.2 + 1 - d.2.1).toNat
/-- what may stand next behind es -/
def nxt (ds : List Wd) (z : Int) (es : List En) : List En := match ds[es.length]? with
  | none => []
  | some d => if d.1.isSome = true then (if (qp ds es es.length : Int) < z then [none] else []) ++ prsW d else [none]
/-- the runs that go on from es, by so many further entries -/
def exts (ds : List Wd) (z : Int) : Nat → List En → List (List En)
  | 0, es => [es]
  | k + 1, es => (nxt ds z es).flatMap fun e => exts ds z k (es ++ [e])
def keeps (ds : List Wd) (z : Int) (i : Nat) (es : List En) : Bool := decide ((qp ds es i : Int) ≤ z)
theorem has_of {ds : List Wd} {i : Nat} {d : Wd} (h : ds[i]? = some d) : has ds i = d.1.isSome := by
  unfold has
  rw [h]
theorem rns_next {ds : List Wd} {i : Nat} {d : Wd} (h : ds[i]? = some d) : rns ds (i + 1) = more (rns ds i) d := by
  show (match ds[i]? with | some d => more (rns ds i) d | none => rns ds i) = _
  rw [h]
theorem filt_none {z : Int} {ds : List Wd} {es : List En} {d : Wd} (hd : ds[es.length]? = some d) : ((ents d).map fun e => es ++ [e]).filter (keeps ds z (es.length + 1)) = if keeps ds z es.length es = true then (nxt ds z es).map fun e => es ++ [e] else [] := by
  have hs : ∀ e, keeps ds z (es.length + 1) (es ++ [e]) = decide (((qp ds es es.length : Int) + (if d.1.isSome = true ∧ e = none then 1 else 0)) ≤ z) := fun e => by
    unfold keeps
    rw [qp_snoc, has_of hd]
    split <;> rfl
  rw [List.filter_map]
  have hf : (ents d).filter (keeps ds z (es.length + 1) ∘ fun e => es ++ [e]) = if keeps ds z es.length es = true then nxt ds z es else [] := by
    rw [show (keeps ds z (es.length + 1) ∘ fun e => es ++ [e]) = (fun e => decide (((qp ds es es.length : Int) + (if d.1.isSome = true ∧ e = none then 1 else 0)) ≤ z)) from funext hs]
    unfold ents nxt keeps
    rw [hd]
    dsimp only
    generalize qp ds es es.length = q
    have hp : ∀ (p : En → Bool) (c : Bool), (∀ e, e ≠ none → p e = c) → (pairs d.2.1 d.2.2 (d.2.2 + 1 - d.2.1).toNat).filter p = if c = true then prsW d else [] := fun p c h => by
      have h' : ∀ e ∈ pairs d.2.1 d.2.2 (d.2.2 + 1 - d.2.1).toNat, p e = c := fun e he => h e (pairs_some he)
      cases c with
      | true => rw [if_pos rfl]; exact List.filter_eq_self.mpr h'
      | false => rw [if_neg (by decide)]; exact List.filter_eq_nil_iff.mpr fun e he => by rw [h' e he]; decide
    cases hb : d.1.isSome with
    | false =>
      by_cases hq : (q : Int) ≤ z
      · simp [hq]
      · simp [hq]
    | true =>
      have hp1 := hp (fun e => decide (((q : Int) + (if True ∧ e = none then 1 else 0)) ≤ z)) (decide ((q : Int) ≤ z)) fun e he => by simp [he]
      have e0 : (fun e : En => decide (((q : Int) + (if true = true ∧ e = none then 1 else 0)) ≤ z)) = fun e => decide (((q : Int) + (if True ∧ e = none then 1 else 0)) ≤ z) := by
        funext e
        simp
      rw [e0]
      show List.filter _ (none :: pairs d.2.1 d.2.2 (d.2.2 + 1 - d.2.1).toNat) = if decide ((q : Int) ≤ z) = true then (if (q : Int) < z then [none] else []) ++ prsW d else []
      rw [List.filter_cons, hp1]
      by_cases h1 : (q : Int) < z
      · have h2 : (q : Int) + 1 ≤ z := by omega
        have h3 : (q : Int) ≤ z := by omega
        simp [h1, h2, h3]
      · have h2 : ¬ (q : Int) + 1 ≤ z := by omega
        by_cases h3 : (q : Int) ≤ z
        · simp [h1, h2, h3]
        · simp [h2, h3]
  rw [hf]
  split <;> rfl
theorem level {ds : List Wd} {z : Int} {i : Nat} (hi : i < ds.length) : (rns ds (i + 1)).filter (keeps ds z (i + 1)) = ((rns ds i).filter (keeps ds z i)).flatMap fun es => (nxt ds z es).map fun e => es ++ [e] := by
  obtain ⟨d, hd⟩ : ∃ d, ds[i]? = some d := ⟨_, List.getElem?_eq_getElem hi⟩
  rw [rns_next hd]
  unfold more
  have : ∀ rs : List (List En), (∀ es ∈ rs, es.length = i) → (rs.flatMap fun es => (ents d).map fun e => es ++ [e]).filter (keeps ds z (i + 1)) = (rs.filter (keeps ds z i)).flatMap fun es => (nxt ds z es).map fun e => es ++ [e] := fun rs => by
    induction rs with
    | nil => intro _; rfl
    | cons es rs ih =>
      intro h
      have hl : es.length = i := h es List.mem_cons_self
      rw [List.flatMap_cons, List.filter_append, ih fun x hx => h x (List.mem_cons_of_mem _ hx), List.filter_cons]
      have := filt_none (z := z) (ds := ds) (es := es) (d := d) (by rw [hl]; exact hd)
      rw [hl] at this
      rw [this]
      cases keeps ds z i es with
      | true => rw [if_pos rfl, if_pos rfl, List.flatMap_cons]
      | false => rw [if_neg (by decide), if_neg (by decide)]; rfl
  exact this _ fun es h => ((mem_rns (Nat.le_of_lt hi)).mp h).1
theorem exts_rns {ds : List Wd} {z : Int} (hz : 0 ≤ z) : ∀ i, i ≤ ds.length → ((rns ds i).filter (keeps ds z i)).flatMap (exts ds z (ds.length - i)) = exts ds z ds.length []
  | 0, _ => by
    have : (rns ds 0).filter (keeps ds z 0) = [[]] := by
      show ([[]] : List (List En)).filter _ = _
      rw [List.filter_cons, if_pos (by unfold keeps; exact decide_eq_true hz)]
      rfl
    rw [this]
    simp
  | i + 1, hi => by
    rw [← exts_rns hz i (Nat.le_of_succ_le hi), level hi, List.flatMap_assoc]
    congr 1
    funext es
    have e : ds.length - i = (ds.length - (i + 1)) + 1 := by omega
    rw [e]
    show _ = (nxt ds z es).flatMap fun e => exts ds z (ds.length - (i + 1)) (es ++ [e])
    rw [List.flatMap_map]
theorem exts_all {ds : List Wd} {z : Int} (hz : 0 ≤ z) : exts ds z ds.length [] = lim z ds := by
  rw [← exts_rns hz ds.length (Nat.le_refl _), Nat.sub_self]
  unfold lim
  show ((rns ds ds.length).filter _).flatMap (fun es => [es]) = _
  rw [List.flatMap_singleton']
  rfl
/-- how many nodes such a tree has -/
def wt (ds : List Wd) (z : Int) : Nat → List En → Nat
  | 0, _ => 1
  | k + 1, es => 1 + ((nxt ds z es).map fun e => wt ds z k (es ++ [e])).sum
/-- what a stack still has to give, the last one first -/
def left (ds : List Wd) (z : Int) (W : List (List En)) : List (List En) := W.reverse.flatMap fun es => exts ds z (ds.length - es.length) es
def wts (ds : List Wd) (z : Int) (W : List (List En)) : Nat := (W.map fun es => wt ds z (ds.length - es.length) es).sum
theorem wt_pos {ds : List Wd} {z : Int} {k : Nat} {es : List En} : 1 ≤ wt ds z k es := by
  cases k with
  | zero => exact Nat.le_refl _
  | succ k => exact Nat.le_add_right _ _
theorem left_full {ds : List Wd} {z : Int} {W : List (List En)} {es : List En} (h : es.length = ds.length) : left ds z (W ++ [es]) = es :: left ds z W := by
  unfold left
  rw [List.reverse_append, List.flatMap_append]
  show (exts ds z (ds.length - es.length) es ++ []) ++ _ = _
  rw [h, Nat.sub_self]
  rfl
theorem left_more {ds : List Wd} {z : Int} {W : List (List En)} {es : List En} (h : es.length < ds.length) : left ds z (W ++ (nxt ds z es).reverse.map fun e => es ++ [e]) = left ds z (W ++ [es]) := by
  unfold left
  rw [List.reverse_append, List.reverse_append, List.flatMap_append, List.flatMap_append]
  congr 1
  rw [← List.map_reverse, List.reverse_reverse, List.flatMap_map]
  show _ = exts ds z (ds.length - es.length) es ++ []
  rw [List.append_nil, show ds.length - es.length = (ds.length - (es.length + 1)) + 1 by omega]
  show _ = (nxt ds z es).flatMap fun e => exts ds z (ds.length - (es.length + 1)) (es ++ [e])
  congr 1
  funext e
  rw [List.length_append, List.length_singleton]
theorem wts_full {ds : List Wd} {z : Int} {W : List (List En)} {es : List En} : wts ds z W < wts ds z (W ++ [es]) := by
  unfold wts
  rw [List.map_append, List.sum_append]
  have := wt_pos (ds := ds) (z := z) (k := ds.length - es.length) (es := es)
  simp
  omega
theorem wts_more {ds : List Wd} {z : Int} {W : List (List En)} {es : List En} (h : es.length < ds.length) : wts ds z (W ++ (nxt ds z es).reverse.map fun e => es ++ [e]) < wts ds z (W ++ [es]) := by
  unfold wts
  rw [List.map_append, List.map_append, List.sum_append, List.sum_append]
  have e1 : (((nxt ds z es).reverse.map fun e => es ++ [e]).map fun es => wt ds z (ds.length - es.length) es).sum = ((nxt ds z es).map fun e => wt ds z (ds.length - (es.length + 1)) (es ++ [e])).sum := by
    rw [List.map_map, List.map_reverse, List.sum_reverse]
    congr 1
    refine List.map_congr_left fun e _ => ?_
    show wt ds z (ds.length - (es ++ [e]).length) (es ++ [e]) = _
    rw [List.length_append, List.length_singleton]
  have e2 : wt ds z (ds.length - es.length) es = 1 + ((nxt ds z es).map fun e => wt ds z (ds.length - (es.length + 1)) (es ++ [e])).sum := by
    rw [show ds.length - es.length = (ds.length - (es.length + 1)) + 1 by omega]
    rfl
  rw [e1]
  simp only [List.map_cons, List.map_nil, List.sum_cons, List.sum_nil]
  omega
theorem len_wts {ds : List Wd} {z : Int} : ∀ {W : List (List En)}, W.length ≤ wts ds z W
  | [] => Nat.le_refl _
  | es :: W => by
    have := len_wts (ds := ds) (z := z) (W := W)
    have h := wt_pos (ds := ds) (z := z) (k := ds.length - es.length) (es := es)
    show W.length + 1 ≤ wt ds z (ds.length - es.length) es + wts ds z W
    omega
theorem nxt_len {ds : List Wd} {z : Int} {es : List En} (h : ∀ (i : Nat) (d : Wd), ds[i]? = some d → d.2.2 - d.2.1 ≤ 9) : (nxt ds z es).length ≤ 101 := by
  unfold nxt
  cases hd : ds[es.length]? with
  | none => exact Nat.zero_le _
  | some d =>
    have h1 := h _ d hd
    dsimp only
    split
    · rw [List.length_append]
      unfold prsW
      rw [pairs_len]
      have h3 : (d.2.2 + 1 - d.2.1).toNat ≤ 10 := by omega
      have h4 : (d.2.2 + 1 - d.2.1).toNat * (d.2.2 + 1 - d.2.1).toNat ≤ 10 * 10 := Nat.mul_le_mul h3 h3
      have h4' : (d.2.2 + 1 - d.2.1).toNat * (d.2.2 + 1 - d.2.1).toNat ≤ 100 := h4
      rw [show (d.2.2 + 1 - d.2.1).toNat = (d.2.2 + 1 - d.2.1).toNat from rfl] at h4'
      split
      · show 1 + _ ≤ 101
        omega
      · show 0 + _ ≤ 101
        omega
    · show 1 ≤ 101
      omega
theorem sum_le {α : Type} {f : α → Nat} {b : Nat} : ∀ {l : List α}, (∀ x ∈ l, f x ≤ b) → (l.map f).sum ≤ l.length * b
  | [], _ => by simp
  | x :: l, h => by
    have h1 := sum_le (l := l) fun y hy => h y (List.mem_cons_of_mem _ hy)
    have h2 := h x List.mem_cons_self
    rw [List.map_cons, List.sum_cons, List.length_cons, Nat.succ_mul]
    omega
def wb : Nat → Nat | 0 => 1 | k + 1 => 1 + 101 * wb k
theorem wt_le {ds : List Wd} {z : Int} (h : ∀ (i : Nat) (d : Wd), ds[i]? = some d → d.2.2 - d.2.1 ≤ 9) : ∀ (k : Nat) (es : List En), wt ds z k es ≤ wb k
  | 0, _ => Nat.le_refl _
  | k + 1, es => by
    have h1 : ((nxt ds z es).map fun e => wt ds z k (es ++ [e])).sum ≤ (nxt ds z es).length * wb k := sum_le fun e _ => wt_le h k _
    have h2 : (nxt ds z es).length * wb k ≤ 101 * wb k := Nat.mul_le_mul_right _ (nxt_len h)
    show 1 + _ ≤ 1 + 101 * wb k
    omega
theorem wb_mono : ∀ {n : Nat}, n ≤ 3 → wb n ≤ 1040604
  | 0, _ => by decide
  | 1, _ => by decide
  | 2, _ => by decide
  | 3, _ => by decide
  | n + 4, h => absurd h (by omega)
end K18

set_option Elab.async false
namespace K18
/-! the program's own run for an outcome; ways by their ends: plain mathematics -/
theorem nodup_le {α : Type} [DecidableEq α] : ∀ {l m : List α}, l.Nodup → (∀ x ∈ l, x ∈ m) → l.length ≤ m.length
  | [], _, _, _ => Nat.zero_le _
  | x :: l, m, hn, hs => by
    rw [List.nodup_cons] at hn
    have hx := hs x List.mem_cons_self
    have ih := nodup_le (l := l) (m := m.erase x) hn.2 fun y hy => (List.mem_erase_of_ne fun e => hn.1 (by rw [← e]; exact hy)).mpr (hs y (List.mem_cons_of_mem _ hy))
    rw [List.length_erase_of_mem hx] at ih
    have := List.length_pos_of_mem hx
    rw [List.length_cons]
    omega
variable {ds : List Wd} {w : Nat} {t z : Int}
def thr (ds : List Wd) (w : Nat) (t : Int) : Int := if t - bg ds w - ms ds w > ls ds w then t - bg ds w - ms ds w else ls ds w
def wrun (ds : List Wd) (w : Nat) (t : Int) : List En := (List.range ds.length).map fun j => if j = w then some (thr ds w t, t - bg ds w - thr ds w t)
  else if early ds w t j = true then none else if has ds j = true then some (ms ds j, ms ds j) else none
theorem ent_wrun {j : Nat} (h : j < ds.length) : ent (wrun ds w t) j = if j = w then some (thr ds w t, t - bg ds w - thr ds w t)
  else if early ds w t j = true then none else if has ds j = true then some (ms ds j, ms ds j) else none := by
  unfold ent wrun
  rw [List.getElem?_map, List.getElem?_range h]
  rfl
theorem wrun_of_can (hf : Fit ds) (h : can ds z w t = true) : Run ds (wrun ds w t) ∧ (qn ds (wrun ds w t) : Int) ≤ z ∧ out ds (wrun ds w t) = some (w, t) := by
  obtain ⟨c1, ⟨c2, c3⟩, c4⟩ := can_iff.mp h
  have hw := has_lt c1
  have hlm := hf w c1
  unfold opn at c2
  unfold fin at c3
  have len : (wrun ds w t).length = ds.length := by unfold wrun; rw [List.length_map, List.length_range]
  have hth : ls ds w ≤ thr ds w t ∧ thr ds w t ≤ ms ds w ∧ ls ds w ≤ t - bg ds w - thr ds w t ∧ t - bg ds w - thr ds w t ≤ ms ds w := by
    unfold thr
    split <;> omega
  have hrun : Run ds (wrun ds w t) := by
    refine ⟨len, fun j a b he => ?_⟩
    have hj : j < ds.length := by
      by_cases q : j < ds.length
      · exact q
      · rw [ent_none (by omega)] at he
        cases he
    rw [ent_wrun hj] at he
    by_cases hjw : j = w
    · rw [if_pos hjw] at he
      cases he
      subst hjw
      exact ⟨c1, hth.1, hth.2.1, hth.2.2.1, hth.2.2.2⟩
    · rw [if_neg hjw] at he
      by_cases he2 : early ds w t j = true
      · rw [if_pos he2] at he; cases he
      · rw [if_neg he2] at he
        by_cases hh : has ds j = true
        · rw [if_pos hh] at he
          cases he
          have := hf j hh
          exact ⟨hh, this, Int.le_refl _, this, Int.le_refl _⟩
        · rw [if_neg hh] at he; cases he
  refine ⟨hrun, ?_, ?_⟩
  · have : qn ds (wrun ds w t) = (hurs ds w t).length := by
      unfold qn hurs
      congr 1
      refine List.filter_congr fun k hk => ?_
      have hk' := List.mem_range.mp hk
      unfold shut
      rw [ent_wrun hk']
      by_cases hkw : k = w
      · rw [if_pos hkw]
        have : early ds w t k = false := by
          rw [Bool.eq_false_iff]
          intro he
          exact (early_iff.mp he).2.1 hkw
        rw [this]
        simp
      · rw [if_neg hkw]
        by_cases he : early ds w t k = true
        · rw [if_pos he, he, (early_iff.mp he).1]
          rfl
        · rw [if_neg he]
          rw [Bool.not_eq_true] at he
          rw [he]
          by_cases hh : has ds k = true
          · rw [if_pos hh]; simp
          · rw [Bool.not_eq_true] at hh
            rw [hh]
            rfl
    rw [this]
    exact c4
  · refine out_of hw ⟨thr ds w t, t - bg ds w - thr ds w t, by rw [ent_wrun hw, if_pos rfl], by omega⟩ fun j a b hj he => ?_
    rw [ent_wrun hj] at he
    by_cases hjw : j = w
    · rw [if_pos hjw] at he
      cases he
      subst hjw
      first
        | exact .inr ⟨by omega, Nat.le_refl _⟩
        | omega
    · rw [if_neg hjw] at he
      by_cases he2 : early ds w t j = true
      · rw [if_pos he2] at he; cases he
      · rw [if_neg he2] at he
        by_cases hh : has ds j = true
        · rw [if_pos hh] at he
          cases he
          have hne : ¬ (has ds j = true ∧ j ≠ w ∧ (fin ds j < t ∨ (fin ds j = t ∧ j < w))) := fun q => he2 (early_iff.mpr q)
          unfold fin at hne
          by_cases h1 : bg ds j + 2 * ms ds j < t
          · exact absurd ⟨hh, hjw, .inl h1⟩ hne
          · by_cases h2 : bg ds j + 2 * ms ds j = t
            · have h3 : ¬ j < w := fun q => hne ⟨hh, hjw, .inr ⟨h2, q⟩⟩
              first
                | exact .inr ⟨by omega, by omega⟩
                | omega
            · first
                | exact .inl (by omega)
                | omega
        · rw [if_neg hh] at he; cases he
/-! ways by their ends -/
def bE (ds : List Wd) (order : List Int) : List Nat := order.flatMap fun e => (plan ds).filter fun j => decide (fin ds j = e)
def ltE (ds : List Wd) (a b : Nat) : Prop := fin ds a < fin ds b ∨ (fin ds a = fin ds b ∧ a < b)
theorem plan_up : (plan ds).Pairwise (· < ·) := List.pairwise_lt_range.filter _
theorem mem_plan {j : Nat} : j ∈ plan ds ↔ has ds j = true := by
  unfold plan
  rw [List.mem_filter, List.mem_range]
  exact ⟨fun h => h.2, fun h => ⟨has_lt h, h⟩⟩
theorem bE_up {order : List Int} (ho : order.Pairwise (· < ·)) : (bE ds order).Pairwise (ltE ds) := by
  unfold bE
  rw [List.pairwise_flatMap]
  refine ⟨fun e _ => ?_, ho.imp fun {a b} h x hx y hy => ?_⟩
  · have h1 : ((plan ds).filter fun j => decide (fin ds j = e)).Pairwise (· < ·) := plan_up.filter _
    refine List.Pairwise.imp_of_mem (fun {x y} hx hy h => ?_) h1
    rw [List.mem_filter, decide_eq_true_eq] at hx hy
    exact .inr ⟨by rw [hx.2, hy.2], h⟩
  · rw [List.mem_filter, decide_eq_true_eq] at hx hy
    exact .inl (by rw [hx.2, hy.2]; exact h)
theorem mem_bE {order : List Int} (hm : ∀ j ∈ plan ds, fin ds j ∈ order) {j : Nat} : j ∈ bE ds order ↔ j ∈ plan ds := by
  unfold bE
  rw [List.mem_flatMap]
  constructor
  · rintro ⟨e, _, h⟩
    exact (List.mem_filter.mp h).1
  · intro h
    exact ⟨fin ds j, hm j h, List.mem_filter.mpr ⟨h, decide_eq_true rfl⟩⟩
theorem ltE_irr {a : Nat} : ¬ ltE ds a a := by
  unfold ltE
  omega
theorem bE_nodup {order : List Int} (ho : order.Pairwise (· < ·)) : (bE ds order).Nodup := by
  rw [List.nodup_iff_pairwise_ne]
  exact (bE_up ho).imp fun {a b} h e => by
    rw [e] at h
    exact ltE_irr h
theorem bE_len {order : List Int} (ho : order.Pairwise (· < ·)) (hm : ∀ j ∈ plan ds, fin ds j ∈ order) : (bE ds order).length = (plan ds).length :=
  Nat.le_antisymm (nodup_le (bE_nodup ho) fun x hx => (mem_bE hm).mp hx) (nodup_le (by rw [List.nodup_iff_pairwise_ne]; exact (plan_up (ds := ds)).imp fun h => by omega) fun x hx => (mem_bE hm).mpr hx)
theorem bE_at {order : List Int} (ho : order.Pairwise (· < ·)) (hm : ∀ j ∈ plan ds, fin ds j ∈ order) {i : Nat} (hw : (bE ds order)[i]? = some w) : (hurs ds w (fin ds w)).length = i ∧ has ds w = true ∧ ∀ j ∈ (bE ds order).take (i + 1), has ds j = true ∧ fin ds j ≤ fin ds w := by
  have hil := (List.getElem?_eq_some_iff.mp hw).1
  have hup := List.pairwise_iff_getElem.mp (bE_up (ds := ds) ho)
  have hwe : (bE ds order)[i] = w := (List.getElem?_eq_some_iff.mp hw).2
  have hbef : ∀ j ∈ (bE ds order).take i, ltE ds j w ∧ has ds j = true := fun j hj => by
    obtain ⟨k, hk, e⟩ := List.getElem_of_mem hj
    rw [List.length_take] at hk
    rw [List.getElem_take] at e
    have h := hup k i (by omega) hil (by omega)
    rw [e, hwe] at h
    exact ⟨h, mem_plan.mp ((mem_bE hm).mp (List.mem_of_mem_take hj))⟩
  have haft : ∀ j ∈ plan ds, ltE ds j w → j ∈ (bE ds order).take i := fun j hj hlt => by
    obtain ⟨k, hk, e⟩ := List.getElem_of_mem ((mem_bE hm).mpr hj)
    by_cases hki : k < i
    · have : ((bE ds order).take i)[k]? = some j := by
        rw [List.getElem?_take_of_lt hki, List.getElem?_eq_getElem hk, e]
      exact List.mem_of_getElem? this
    · exfalso
      by_cases hke : k = i
      · subst hke
        rw [hwe] at e
        rw [e] at hlt
        exact ltE_irr hlt
      · have h := hup i k hil hk (by omega)
        rw [e, hwe] at h
        unfold ltE at h hlt
        omega
  have hnd : ((bE ds order).take i).Nodup := (bE_nodup ho).sublist (List.take_sublist _ _)
  have hhn : (hurs ds w (fin ds w)).Nodup := List.nodup_range.filter _
  have hmem : ∀ j, j ∈ hurs ds w (fin ds w) ↔ has ds j = true ∧ ltE ds j w := fun j => by
    unfold hurs ltE
    rw [List.mem_filter, List.mem_range, early_iff]
    constructor
    · rintro ⟨_, h1, h2, h3⟩
      exact ⟨h1, h3⟩
    · rintro ⟨h1, h3⟩
      exact ⟨has_lt h1, h1, (fun e => by rw [e] at h3; omega), h3⟩
  refine ⟨?_, mem_plan.mp ((mem_bE hm).mp (List.mem_of_getElem? hw)), fun j hj => ?_⟩
  · have hl : ((bE ds order).take i).length = i := by rw [List.length_take]; omega
    have h1 := nodup_le hhn (m := (bE ds order).take i) fun j hj => haft j (mem_plan.mpr ((hmem j).mp hj).1) ((hmem j).mp hj).2
    have h2 := nodup_le hnd (m := hurs ds w (fin ds w)) fun j hj => (hmem j).mpr ⟨(hbef j hj).2, (hbef j hj).1⟩
    omega
  · rw [List.take_add_one, hw, List.mem_append] at hj
    rcases hj with hj | hj
    · obtain ⟨h1, h2⟩ := hbef j hj
      unfold ltE at h1
      exact ⟨h2, by omega⟩
    · have : j = w := by simpa using hj
      rw [this]
      exact ⟨mem_plan.mp ((mem_bE hm).mp (List.mem_of_getElem? hw)), Int.le_refl _⟩
theorem bE_latest (hf : Fit ds) {order E : List Int} {n : Nat} {L : Int} (ho : order.Pairwise (· < ·)) (hm : ∀ j ∈ plan ds, fin ds j ∈ order) (hp : E.Perm (ends ds)) (hs : E.Pairwise (· ≤ ·)) (hL : E[n]? = some L) (hz : z = (n : Int)) (hw : (bE ds order)[n]? = some w) :
    fin ds w = L ∧ can ds z w L = true ∧ ∀ j ∈ (bE ds order).take (n + 1), has ds j = true ∧ fin ds j ≤ L := by
  obtain ⟨h1, h2, h3⟩ := bE_at ho hm hw
  have hcan : can ds z w (fin ds w) = true := by
    refine can_iff.mpr ⟨h2, ⟨?_, Int.le_refl _⟩, by omega⟩
    have := hf w h2
    unfold opn fin
    omega
  have hle := latest_hi hp hs hL hz hcan
  have hge : L ≤ fin ds w := by
    by_cases q : L ≤ fin ds w
    · exact q
    · exfalso
      have hc := count_lt hs hL
      have hc2 := perm_count hp fun x => decide (x < L)
      rw [hc2, ends_count] at hc
      have hnd : ((bE ds order).take (n + 1)).Nodup := (bE_nodup ho).sublist (List.take_sublist _ _)
      have hl : ((bE ds order).take (n + 1)).length = n + 1 := by
        rw [List.length_take]
        have := (List.getElem?_eq_some_iff.mp hw).1
        omega
      have := nodup_le hnd (m := (List.range ds.length).filter fun j => has ds j && decide (fin ds j < L)) fun j hj => by
        obtain ⟨a, b⟩ := h3 j hj
        rw [List.mem_filter, List.mem_range, a, decide_eq_true (by omega)]
        exact ⟨has_lt a, rfl⟩
      omega
  have e : fin ds w = L := by omega
  rw [e] at hcan h3
  exact ⟨e, hcan, h3⟩
end K18

set_option Elab.async false
set_option maxRecDepth 100000
set_option maxHeartbeats 4000000
namespace K18
open PySem PySem.Spec PyProof.Rows L2
def top (i : Nat) : Stmt := PySem.Challenge.pw_wholeline_k19_race_papers_of_anyone.main.body.getD i (.Pass ⟨0, 0, 0, 0⟩)
abbrev s_is_integer : Stmt := top 2
abbrev nm_is_integer : List Str := ["value"]
abbrev pm_is_integer : List Str := ["value"]
theorem sc_is_integer : FnScope nm_is_integer pm_is_integer (defScope s_is_integer) := ⟨rfl, rfl, rfl, by decide +kernel, rfl, by decide +kernel, by decide +kernel⟩

abbrev s_is_between : Stmt := top 3
abbrev nm_is_between : List Str := ["value", "low", "high"]
abbrev pm_is_between : List Str := ["value", "low", "high"]
theorem sc_is_between : FnScope nm_is_between pm_is_between (defScope s_is_between) := ⟨rfl, rfl, rfl, by decide +kernel, rfl, by decide +kernel, by decide +kernel⟩

abbrev s_is_index : Stmt := top 4
abbrev nm_is_index : List Str := ["value", "many"]
abbrev pm_is_index : List Str := ["value", "many"]
theorem sc_is_index : FnScope nm_is_index pm_is_index (defScope s_is_index) := ⟨rfl, rfl, rfl, by decide +kernel, rfl, by decide +kernel, by decide +kernel⟩

abbrev s_is_list : Stmt := top 5
abbrev nm_is_list : List Str := ["value"]
abbrev pm_is_list : List Str := ["value"]
theorem sc_is_list : FnScope nm_is_list pm_is_list (defScope s_is_list) := ⟨rfl, rfl, rfl, by decide +kernel, rfl, by decide +kernel, by decide +kernel⟩

abbrev s_is_list_of : Stmt := top 6
abbrev nm_is_list_of : List Str := ["value", "low", "high"]
abbrev pm_is_list_of : List Str := ["value", "low", "high"]
theorem sc_is_list_of : FnScope nm_is_list_of pm_is_list_of (defScope s_is_list_of) := ⟨rfl, rfl, rfl, by decide +kernel, rfl, by decide +kernel, by decide +kernel⟩

abbrev s_is_tuple_of : Stmt := top 7
abbrev nm_is_tuple_of : List Str := ["value", "many"]
abbrev pm_is_tuple_of : List Str := ["value", "many"]
theorem sc_is_tuple_of : FnScope nm_is_tuple_of pm_is_tuple_of (defScope s_is_tuple_of) := ⟨rfl, rfl, rfl, by decide +kernel, rfl, by decide +kernel, by decide +kernel⟩

abbrev s_are_rising_indexes : Stmt := top 8
abbrev nm_are_rising_indexes : List Str := ["values", "many", "value", "one", "other"]
abbrev pm_are_rising_indexes : List Str := ["values", "many"]
theorem sc_are_rising_indexes : FnScope nm_are_rising_indexes pm_are_rising_indexes (defScope s_are_rising_indexes) := ⟨rfl, rfl, rfl, by decide +kernel, rfl, by decide +kernel, by decide +kernel⟩

abbrev s_is_lot : Stmt := top 9
abbrev nm_is_lot : List Str := ["value", "many"]
abbrev pm_is_lot : List Str := ["value", "many"]
theorem sc_is_lot : FnScope nm_is_lot pm_is_lot (defScope s_is_lot) := ⟨rfl, rfl, rfl, by decide +kernel, rfl, by decide +kernel, by decide +kernel⟩

abbrev s_greater : Stmt := top 10
abbrev nm_greater : List Str := ["one", "other"]
abbrev pm_greater : List Str := ["one", "other"]
theorem sc_greater : FnScope nm_greater pm_greater (defScope s_greater) := ⟨rfl, rfl, rfl, by decide +kernel, rfl, by decide +kernel, by decide +kernel⟩

abbrev s_BadPart_init : Stmt := inClass (top 13) 0
abbrev nm_BadPart_init : List Str := ["self", "part"]
abbrev pm_BadPart_init : List Str := ["self", "part"]
theorem sc_BadPart_init : FnScope nm_BadPart_init pm_BadPart_init (defScope s_BadPart_init) := ⟨rfl, rfl, rfl, by decide +kernel, rfl, by decide +kernel, by decide +kernel⟩

abbrev s_BadBox_init : Stmt := inClass (top 14) 0
abbrev nm_BadBox_init : List Str := ["self", "index"]
abbrev pm_BadBox_init : List Str := ["self", "index"]
theorem sc_BadBox_init : FnScope nm_BadBox_init pm_BadBox_init (defScope s_BadBox_init) := ⟨rfl, rfl, rfl, by decide +kernel, rfl, by decide +kernel, by decide +kernel⟩

abbrev s_NoWay_init : Stmt := inClass (top 15) 0
abbrev nm_NoWay_init : List Str := ["self", "way"]
abbrev pm_NoWay_init : List Str := ["self", "way"]
theorem sc_NoWay_init : FnScope nm_NoWay_init pm_NoWay_init (defScope s_NoWay_init) := ⟨rfl, rfl, rfl, by decide +kernel, rfl, by decide +kernel, by decide +kernel⟩

abbrev s_CannotWin_init : Stmt := inClass (top 16) 0
abbrev nm_CannotWin_init : List Str := ["self", "way"]
abbrev pm_CannotWin_init : List Str := ["self", "way"]
theorem sc_CannotWin_init : FnScope nm_CannotWin_init pm_CannotWin_init (defScope s_CannotWin_init) := ⟨rfl, rfl, rfl, by decide +kernel, rfl, by decide +kernel, by decide +kernel⟩

abbrev s_is_begin : Stmt := top 22
abbrev nm_is_begin : List Str := ["value"]
abbrev pm_is_begin : List Str := ["value"]
theorem sc_is_begin : FnScope nm_is_begin pm_is_begin (defScope s_is_begin) := ⟨rfl, rfl, rfl, by decide +kernel, rfl, by decide +kernel, by decide +kernel⟩

abbrev s_are_delays : Stmt := top 23
abbrev nm_are_delays : List Str := ["least", "most"]
abbrev pm_are_delays : List Str := ["least", "most"]
theorem sc_are_delays : FnScope nm_are_delays pm_are_delays (defScope s_are_delays) := ⟨rfl, rfl, rfl, by decide +kernel, rfl, by decide +kernel, by decide +kernel⟩

abbrev s_is_box : Stmt := top 24
abbrev nm_is_box : List Str := ["value", "least", "most", "near", "far", "shortest", "longest"]
abbrev pm_is_box : List Str := ["value", "least", "most"]
theorem sc_is_box : FnScope nm_is_box pm_is_box (defScope s_is_box) := ⟨rfl, rfl, rfl, by decide +kernel, rfl, by decide +kernel, by decide +kernel⟩

abbrev s_Way_init : Stmt := inClass (top 25) 0
abbrev nm_Way_init : List Str := ["self", "begin", "least", "most", "boxes", "index", "box"]
abbrev pm_Way_init : List Str := ["self", "begin", "least", "most", "boxes"]
theorem sc_Way_init : FnScope nm_Way_init pm_Way_init (defScope s_Way_init) := ⟨rfl, rfl, rfl, by decide +kernel, rfl, by decide +kernel, by decide +kernel⟩

abbrev s_Way_window : Stmt := inClass (top 25) 1
abbrev nm_Way_window : List Str := ["self"]
abbrev pm_Way_window : List Str := ["self"]
theorem sc_Way_window : FnScope nm_Way_window pm_Way_window (defScope s_Way_window) := ⟨rfl, rfl, rfl, by decide +kernel, rfl, by decide +kernel, by decide +kernel⟩

abbrev s_Way_eq : Stmt := inClass (top 25) 3
abbrev nm_Way_eq : List Str := ["self", "other"]
abbrev pm_Way_eq : List Str := ["self", "other"]
theorem sc_Way_eq : FnScope nm_Way_eq pm_Way_eq (defScope s_Way_eq) := ⟨rfl, rfl, rfl, by decide +kernel, rfl, by decide +kernel, by decide +kernel⟩

abbrev s_check_ways : Stmt := top 29
abbrev nm_check_ways : List Str := ["ways", "way"]
abbrev pm_check_ways : List Str := ["ways"]
theorem sc_check_ways : FnScope nm_check_ways pm_check_ways (defScope s_check_ways) := ⟨rfl, rfl, rfl, by decide +kernel, rfl, by decide +kernel, by decide +kernel⟩

abbrev s_check_silent : Stmt := top 30
abbrev nm_check_silent : List Str := ["silent"]
abbrev pm_check_silent : List Str := ["silent"]
theorem sc_check_silent : FnScope nm_check_silent pm_check_silent (defScope s_check_silent) := ⟨rfl, rfl, rfl, by decide +kernel, rfl, by decide +kernel, by decide +kernel⟩

abbrev s_check_way : Stmt := top 31
abbrev nm_check_way : List Str := ["race", "way"]
abbrev pm_check_way : List Str := ["race", "way"]
theorem sc_check_way : FnScope nm_check_way pm_check_way (defScope s_check_way) := ⟨rfl, rfl, rfl, by decide +kernel, rfl, by decide +kernel, by decide +kernel⟩

abbrev s_Race_init : Stmt := inClass (top 32) 0
abbrev nm_Race_init : List Str := ["self", "ways", "silent"]
abbrev pm_Race_init : List Str := ["self", "ways", "silent"]
theorem sc_Race_init : FnScope nm_Race_init pm_Race_init (defScope s_Race_init) := ⟨rfl, rfl, rfl, by decide +kernel, rfl, by decide +kernel, by decide +kernel⟩

abbrev s_Race_planned : Stmt := inClass (top 32) 1
abbrev nm_Race_planned : List Str := ["self", "way", "told"]
abbrev pm_Race_planned : List Str := ["self"]
theorem sc_Race_planned : FnScope nm_Race_planned pm_Race_planned (defScope s_Race_planned) := ⟨rfl, rfl, rfl, by decide +kernel, rfl, by decide +kernel, by decide +kernel⟩

abbrev s_Race_hurried : Stmt := inClass (top 32) 2
abbrev nm_Race_hurried : List Str := ["self", "way", "at", "ends", "other", "end"]
abbrev pm_Race_hurried : List Str := ["self", "way", "at"]
theorem sc_Race_hurried : FnScope nm_Race_hurried pm_Race_hurried (defScope s_Race_hurried) := ⟨rfl, rfl, rfl, by decide +kernel, rfl, by decide +kernel, by decide +kernel⟩

abbrev s_Race_can_win : Stmt := inClass (top 32) 3
abbrev nm_Race_can_win : List Str := ["self", "way", "at", "window"]
abbrev pm_Race_can_win : List Str := ["self", "way", "at"]
theorem sc_Race_can_win : FnScope nm_Race_can_win pm_Race_can_win (defScope s_Race_can_win) := ⟨rfl, rfl, rfl, by decide +kernel, rfl, by decide +kernel, by decide +kernel⟩

abbrev s_Race_latest : Stmt := inClass (top 32) 6
abbrev nm_Race_latest : List Str := ["self", "ends", "way"]
abbrev pm_Race_latest : List Str := ["self"]
theorem sc_Race_latest : FnScope nm_Race_latest pm_Race_latest (defScope s_Race_latest) := ⟨rfl, rfl, rfl, by decide +kernel, rfl, by decide +kernel, by decide +kernel⟩

abbrev s_Race_eq : Stmt := inClass (top 32) 7
abbrev nm_Race_eq : List Str := ["self", "other"]
abbrev pm_Race_eq : List Str := ["self", "other"]
theorem sc_Race_eq : FnScope nm_Race_eq pm_Race_eq (defScope s_Race_eq) := ⟨rfl, rfl, rfl, by decide +kernel, rfl, by decide +kernel, by decide +kernel⟩

abbrev s_Outcome_init : Stmt := inClass (top 33) 0
abbrev nm_Outcome_init : List Str := ["self", "winner", "moment", "sent"]
abbrev pm_Outcome_init : List Str := ["self", "winner", "moment", "sent"]
theorem sc_Outcome_init : FnScope nm_Outcome_init pm_Outcome_init (defScope s_Outcome_init) := ⟨rfl, rfl, rfl, by decide +kernel, rfl, by decide +kernel, by decide +kernel⟩

abbrev s_Outcome_eq : Stmt := inClass (top 33) 1
abbrev nm_Outcome_eq : List Str := ["self", "other"]
abbrev pm_Outcome_eq : List Str := ["self", "other"]
theorem sc_Outcome_eq : FnScope nm_Outcome_eq pm_Outcome_eq (defScope s_Outcome_eq) := ⟨rfl, rfl, rfl, by decide +kernel, rfl, by decide +kernel, by decide +kernel⟩

abbrev s_fits : Stmt := top 34
abbrev nm_fits : List Str := ["way", "entry", "delay"]
abbrev pm_fits : List Str := ["way", "entry"]
theorem sc_fits : FnScope nm_fits pm_fits (defScope s_fits) := ⟨rfl, rfl, rfl, by decide +kernel, rfl, by decide +kernel, by decide +kernel⟩

abbrev s_wrong_of : Stmt := top 35
abbrev nm_wrong_of : List Str := ["race", "run", "index", "silent", "way"]
abbrev pm_wrong_of : List Str := ["race", "run"]
theorem sc_wrong_of : FnScope nm_wrong_of pm_wrong_of (defScope s_wrong_of) := ⟨rfl, rfl, rfl, by decide +kernel, rfl, by decide +kernel, by decide +kernel⟩

abbrev s_outcome_of : Stmt := top 36
abbrev nm_outcome_of : List Str := ["race", "run", "winner", "moment", "way", "answer", "sent"]
abbrev pm_outcome_of : List Str := ["race", "run"]
theorem sc_outcome_of : FnScope nm_outcome_of pm_outcome_of (defScope s_outcome_of) := ⟨rfl, rfl, rfl, by decide +kernel, rfl, by decide +kernel, by decide +kernel⟩

abbrev s_check_win : Stmt := top 37
abbrev nm_check_win : List Str := ["race", "way", "at"]
abbrev pm_check_win : List Str := ["race", "way", "at"]
theorem sc_check_win : FnScope nm_check_win pm_check_win (defScope s_check_win) := ⟨rfl, rfl, rfl, by decide +kernel, rfl, by decide +kernel, by decide +kernel⟩

abbrev s_answer_at : Stmt := top 38
abbrev nm_answer_at : List Str := ["way", "at", "both", "there"]
abbrev pm_answer_at : List Str := ["way", "at"]
theorem sc_answer_at : FnScope nm_answer_at pm_answer_at (defScope s_answer_at) := ⟨rfl, rfl, rfl, by decide +kernel, rfl, by decide +kernel, by decide +kernel⟩

abbrev s_win_run : Stmt := top 39
abbrev nm_win_run : List Str := ["race", "way", "at", "hurried", "entries", "other", "told"]
abbrev pm_win_run : List Str := ["race", "way", "at"]
theorem sc_win_run : FnScope nm_win_run pm_win_run (defScope s_win_run) := ⟨rfl, rfl, rfl, by decide +kernel, rfl, by decide +kernel, by decide +kernel⟩

abbrev s_in_window : Stmt := top 41
abbrev nm_in_window : List Str := ["race", "way", "at", "window"]
abbrev pm_in_window : List Str := ["race", "way", "at"]
theorem sc_in_window : FnScope nm_in_window pm_in_window (defScope s_in_window) := ⟨rfl, rfl, rfl, by decide +kernel, rfl, by decide +kernel, by decide +kernel⟩

abbrev s_win_paper : Stmt := top 42
abbrev nm_win_paper : List Str := ["race", "way", "at"]
abbrev pm_win_paper : List Str := ["race", "way", "at"]
theorem sc_win_paper : FnScope nm_win_paper pm_win_paper (defScope s_win_paper) := ⟨rfl, rfl, rfl, by decide +kernel, rfl, by decide +kernel, by decide +kernel⟩

abbrev s_ways_by_end : Stmt := top 43
abbrev nm_ways_by_end : List Str := ["race", "ends", "order", "way", "_", "end", "told"]
abbrev pm_ways_by_end : List Str := ["race"]
theorem sc_ways_by_end : FnScope nm_ways_by_end pm_ways_by_end (defScope s_ways_by_end) := ⟨rfl, rfl, rfl, by decide +kernel, rfl, by decide +kernel, by decide +kernel⟩

abbrev s_latest_paper : Stmt := top 44
abbrev nm_latest_paper : List Str := ["race", "latest", "first", "way"]
abbrev pm_latest_paper : List Str := ["race"]
theorem sc_latest_paper : FnScope nm_latest_paper pm_latest_paper (defScope s_latest_paper) := ⟨rfl, rfl, rfl, by decide +kernel, rfl, by decide +kernel, by decide +kernel⟩

abbrev s_ends_at : Stmt := top 45
abbrev nm_ends_at : List Str := ["race", "at", "run", "outcome"]
abbrev pm_ends_at : List Str := ["race", "at", "run"]
theorem sc_ends_at : FnScope nm_ends_at pm_ends_at (defScope s_ends_at) := ⟨rfl, rfl, rfl, by decide +kernel, rfl, by decide +kernel, by decide +kernel⟩

abbrev s_shows_win : Stmt := top 46
abbrev nm_shows_win : List Str := ["race", "way", "at", "run", "outcome"]
abbrev pm_shows_win : List Str := ["race", "way", "at", "run"]
theorem sc_shows_win : FnScope nm_shows_win pm_shows_win (defScope s_shows_win) := ⟨rfl, rfl, rfl, by decide +kernel, rfl, by decide +kernel, by decide +kernel⟩

abbrev s_shows_never : Stmt := top 47
abbrev nm_shows_never : List Str := ["race", "way", "at", "lot", "hurried", "other"]
abbrev pm_shows_never : List Str := ["race", "way", "at", "lot"]
theorem sc_shows_never : FnScope nm_shows_never pm_shows_never (defScope s_shows_never) := ⟨rfl, rfl, rfl, by decide +kernel, rfl, by decide +kernel, by decide +kernel⟩

abbrev s_shows_latest : Stmt := top 48
abbrev nm_shows_latest : List Str := ["race", "at", "run", "lot", "planned", "way"]
abbrev pm_shows_latest : List Str := ["race", "at", "run", "lot"]
theorem sc_shows_latest : FnScope nm_shows_latest pm_shows_latest (defScope s_shows_latest) := ⟨rfl, rfl, rfl, by decide +kernel, rfl, by decide +kernel, by decide +kernel⟩

abbrev s_shows_unanswered : Stmt := top 49
abbrev nm_shows_unanswered : List Str := ["race", "run"]
abbrev pm_shows_unanswered : List Str := ["race", "run"]
theorem sc_shows_unanswered : FnScope nm_shows_unanswered pm_shows_unanswered (defScope s_shows_unanswered) := ⟨rfl, rfl, rfl, by decide +kernel, rfl, by decide +kernel, by decide +kernel⟩

abbrev s__law_draw : Stmt := top 51
abbrev nm__law_draw : List Str := ["_law_state", "_law_limit", "_law_cells", "_law_at", "_law_cell", "_law_mixed"]
abbrev pm__law_draw : List Str := ["_law_state", "_law_limit"]
theorem sc__law_draw : FnScope nm__law_draw pm__law_draw (defScope s__law_draw) := ⟨rfl, rfl, rfl, by decide +kernel, rfl, by decide +kernel, by decide +kernel⟩

abbrev s__law_way : Stmt := top 52
abbrev nm__law_way : List Str := ["_law_state", "_law_begin", "_law_least"]
abbrev pm__law_way : List Str := ["_law_state"]
theorem sc__law_way : FnScope nm__law_way pm__law_way (defScope s__law_way) := ⟨rfl, rfl, rfl, by decide +kernel, rfl, by decide +kernel, by decide +kernel⟩

abbrev s__law_ways : Stmt := top 53
abbrev nm__law_ways : List Str := ["_law_state", "_law_most", "_law_k"]
abbrev pm__law_ways : List Str := ["_law_state", "_law_most"]
theorem sc__law_ways : FnScope nm__law_ways pm__law_ways (defScope s__law_ways) := ⟨rfl, rfl, rfl, by decide +kernel, rfl, by decide +kernel, by decide +kernel⟩

abbrev s__law_made : Stmt := top 54
abbrev nm__law_made : List Str := ["_law_ways_here", "_law_way_here"]
abbrev pm__law_made : List Str := ["_law_ways_here"]
theorem sc__law_made : FnScope nm__law_made pm__law_made (defScope s__law_made) := ⟨rfl, rfl, rfl, by decide +kernel, rfl, by decide +kernel, by decide +kernel⟩

abbrev s__law_entries : Stmt := top 55
abbrev nm__law_entries : List Str := ["_law_way_here", "_law_found", "_law_there", "_law_back"]
abbrev pm__law_entries : List Str := ["_law_way_here"]
theorem sc__law_entries : FnScope nm__law_entries pm__law_entries (defScope s__law_entries) := ⟨rfl, rfl, rfl, by decide +kernel, rfl, by decide +kernel, by decide +kernel⟩

abbrev s__law_quiet : Stmt := top 56
abbrev nm__law_quiet : List Str := ["_law_ways_here", "_law_run_here", "_law_k"]
abbrev pm__law_quiet : List Str := ["_law_ways_here", "_law_run_here"]
theorem sc__law_quiet : FnScope nm__law_quiet pm__law_quiet (defScope s__law_quiet) := ⟨rfl, rfl, rfl, by decide +kernel, rfl, by decide +kernel, by decide +kernel⟩

abbrev s__law_runs : Stmt := top 57
abbrev nm__law_runs : List Str := ["_law_ways_here", "_law_silent", "_law_found", "_law_way_here", "_law_longer", "_law_run_here", "_law_entry"]
abbrev pm__law_runs : List Str := ["_law_ways_here", "_law_silent"]
theorem sc__law_runs : FnScope nm__law_runs pm__law_runs (defScope s__law_runs) := ⟨rfl, rfl, rfl, by decide +kernel, rfl, by decide +kernel, by decide +kernel⟩

abbrev s__law_outcome : Stmt := top 58
abbrev nm__law_outcome : List Str := ["_law_ways_here", "_law_run_here", "_law_best", "_law_k", "_law_moment_here", "_law_planned"]
abbrev pm__law_outcome : List Str := ["_law_ways_here", "_law_run_here"]
theorem sc__law_outcome : FnScope nm__law_outcome pm__law_outcome (defScope s__law_outcome) := ⟨rfl, rfl, rfl, by decide +kernel, rfl, by decide +kernel, by decide +kernel⟩

abbrev s__law_hurried : Stmt := top 59
abbrev nm__law_hurried : List Str := ["_law_ways_here", "_law_w", "_law_at", "_law_found", "_law_k", "_law_last"]
abbrev pm__law_hurried : List Str := ["_law_ways_here", "_law_w", "_law_at"]
theorem sc__law_hurried : FnScope nm__law_hurried pm__law_hurried (defScope s__law_hurried) := ⟨rfl, rfl, rfl, by decide +kernel, rfl, by decide +kernel, by decide +kernel⟩

abbrev s__law_is_lot : Stmt := top 60
abbrev nm__law_is_lot : List Str := ["_law_ways_here", "_law_lot_here", "_law_k"]
abbrev pm__law_is_lot : List Str := ["_law_ways_here", "_law_lot_here"]
theorem sc__law_is_lot : FnScope nm__law_is_lot pm__law_is_lot (defScope s__law_is_lot) := ⟨rfl, rfl, rfl, by decide +kernel, rfl, by decide +kernel, by decide +kernel⟩

abbrev s__law_never : Stmt := top 61
abbrev nm__law_never : List Str := ["_law_ways_here", "_law_silent", "_law_w", "_law_at", "_law_lot_here", "_law_way_here", "_law_inside", "_law_k"]
abbrev pm__law_never : List Str := ["_law_ways_here", "_law_silent", "_law_w", "_law_at", "_law_lot_here"]
theorem sc__law_never : FnScope nm__law_never pm__law_never (defScope s__law_never) := ⟨rfl, rfl, rfl, by decide +kernel, rfl, by decide +kernel, by decide +kernel⟩

abbrev s__law_latest : Stmt := top 62
abbrev nm__law_latest : List Str := ["_law_ways_here", "_law_silent", "_law_at", "_law_run_here", "_law_lot_here", "_law_due", "_law_k"]
abbrev pm__law_latest : List Str := ["_law_ways_here", "_law_silent", "_law_at", "_law_run_here", "_law_lot_here", "_law_due"]
theorem sc__law_latest : FnScope nm__law_latest pm__law_latest (defScope s__law_latest) := ⟨rfl, rfl, rfl, by decide +kernel, rfl, by decide +kernel, by decide +kernel⟩

abbrev s__law_run_of : Stmt := top 63
abbrev nm__law_run_of : List Str := ["_law_race", "_law_w", "_law_at", "e"]
abbrev pm__law_run_of : List Str := ["_law_race", "_law_w", "_law_at"]
theorem sc__law_run_of : FnScope nm__law_run_of pm__law_run_of (defScope s__law_run_of) := ⟨rfl, rfl, rfl, by decide +kernel, rfl, by decide +kernel, by decide +kernel⟩

abbrev s__law_lot : Stmt := top 64
abbrev nm__law_lot : List Str := ["_law_state", "_law_count", "_law_lot_here", "_law_k"]
abbrev pm__law_lot : List Str := ["_law_state", "_law_count"]
theorem sc__law_lot : FnScope nm__law_lot pm__law_lot (defScope s__law_lot) := ⟨rfl, rfl, rfl, by decide +kernel, rfl, by decide +kernel, by decide +kernel⟩

abbrev s__law_run : Stmt := top 65
abbrev nm__law_run : List Str := ["_law_state", "_law_due", "_law_run_here"]
abbrev pm__law_run : List Str := ["_law_state", "_law_due"]
theorem sc__law_run : FnScope nm__law_run pm__law_run (defScope s__law_run) := ⟨rfl, rfl, rfl, by decide +kernel, rfl, by decide +kernel, by decide +kernel⟩

abbrev s__law_moment : Stmt := top 66
abbrev nm__law_moment : List Str := ["_law_state", "_law_ways_here", "_law_w", "_law_way_here"]
abbrev pm__law_moment : List Str := ["_law_state", "_law_ways_here", "_law_w"]
theorem sc__law_moment : FnScope nm__law_moment pm__law_moment (defScope s__law_moment) := ⟨rfl, rfl, rfl, by decide +kernel, rfl, by decide +kernel, by decide +kernel⟩

abbrev s__law_shown : Stmt := top 67
abbrev nm__law_shown : List Str := ["_law_state", "_law_ways_here", "_law_silent", "_law_at", "_law_due", "_law_runs_here", "_law_lot_here", "_law_run_here", "_law_k"]
abbrev pm__law_shown : List Str := ["_law_state", "_law_ways_here", "_law_silent", "_law_at", "_law_due"]
theorem sc__law_shown : FnScope nm__law_shown pm__law_shown (defScope s__law_shown) := ⟨rfl, rfl, rfl, by decide +kernel, rfl, by decide +kernel, by decide +kernel⟩

abbrev s__law_told_right : Stmt := top 68
abbrev nm__law_told_right : List Str := ["_law_race", "_law_ways_here", "_law_silent", "_law_w", "_law_at", "_law_due", "_law_wins", "_law_told", "_law_run_here"]
abbrev pm__law_told_right : List Str := ["_law_race", "_law_ways_here", "_law_silent", "_law_w", "_law_at", "_law_due"]
theorem sc__law_told_right : FnScope nm__law_told_right pm__law_told_right (defScope s__law_told_right) := ⟨rfl, rfl, rfl, by decide +kernel, rfl, by decide +kernel, by decide +kernel⟩

abbrev s__law_judged : Stmt := top 69
abbrev nm__law_judged : List Str := ["_law_race", "_law_ways_here", "_law_silent", "_law_w", "_law_at", "_law_run_here", "_law_lot_here", "_law_due", "_law_fits"]
abbrev pm__law_judged : List Str := ["_law_race", "_law_ways_here", "_law_silent", "_law_w", "_law_at", "_law_run_here", "_law_lot_here", "_law_due"]
theorem sc__law_judged : FnScope nm__law_judged pm__law_judged (defScope s__law_judged) := ⟨rfl, rfl, rfl, by decide +kernel, rfl, by decide +kernel, by decide +kernel⟩

abbrev s_law : Stmt := top 70
abbrev nm_law : List Str := ["_law_script", "_law_state", "_law_ways_here", "_law_silent", "_law_race", "_law_due", "_law_k", "_law_w", "_law_at", "_law_run_here", "_law_lot_here", "_law_told", "_law_latest_here", "_law_planned", "_law_way_here"]
abbrev pm_law : List Str := ["_law_script"]
theorem sc_law : FnScope nm_law pm_law (defScope s_law) := ⟨rfl, rfl, rfl, by decide +kernel, rfl, by decide +kernel, by decide +kernel⟩

structure Ad where
  (BadPart BadBox NoWay CannotWin WholeError Way Race Outcome T0 : Addr)
structure Txt (K : PySem.W.Frag) (mg : Str → Option Value) (A : Ad) : Prop where
  n_isinstance : mg "isinstance" = none
  n_int : mg "int" = none
  n_bool : mg "bool" = none
  n_list : mg "list" = none
  n_tuple : mg "tuple" = none
  n_len : mg "len" = none
  n_range : mg "range" = none
  n_max : mg "max" = none
  n_sum : mg "sum" = none
  n_zip : mg "zip" = none
  n_set : mg "set" = none
  n_enumerate : mg "enumerate" = none
  n_all : mg "all" = none
  n_sorted : mg "sorted" = none
  g_MOST_BEGIN : ∃ t, mg "MOST_BEGIN" = some (.int 1000 t)
  g_MOST_DELAY : ∃ t, mg "MOST_DELAY" = some (.int 50 t)
  g_MOST_BOXES : ∃ t, mg "MOST_BOXES" = some (.int 3 t)
  g_MOST_KEEP : ∃ t, mg "MOST_KEEP" = some (.int 10000 t)
  g_MOST_WAYS : ∃ t, mg "MOST_WAYS" = some (.int 4 t)
  g_MOST_SILENT : ∃ t, mg "MOST_SILENT" = some (.int 3 t)
  Way : ClsX K mg "Way" A.Way
  w_begin : NoAttr K A.Way "begin"
  w_least : NoAttr K A.Way "least"
  w_most : NoAttr K A.Way "most"
  w_boxes : NoAttr K A.Way "boxes"
  Race : ClsX K mg "Race" A.Race
  r_ways : NoAttr K A.Race "ways"
  r_silent : NoAttr K A.Race "silent"
  BadPart : XAt K mg "BadPart" "part" A.BadPart s_BadPart_init "BadPart.__init__"
  BadBox : XAt K mg "BadBox" "index" A.BadBox s_BadBox_init "BadBox.__init__"
  NoWay : XAt K mg "NoWay" "way" A.NoWay s_NoWay_init "NoWay.__init__"
  CannotWin : XAt K mg "CannotWin" "way" A.CannotWin s_CannotWin_init "CannotWin.__init__"
  x_cc : PySem.W.exmOne K (.ref A.CannotWin) (.ref A.CannotWin) = some true
  Outcome : ClsX K mg "Outcome" A.Outcome
  o_winner : NoAttr K A.Outcome "winner"
  o_moment : NoAttr K A.Outcome "moment"
  o_sent : NoAttr K A.Outcome "sent"
  g_WholeError : mg "WholeError" = some (.ref A.WholeError)
  t0 : ∀ H, SqT K H A.T0 []
section
variable {P : Program} {w : World} {K : PySem.W.Frag} {mg : Str → Option Value} {base : Heap} {A : Ad}
theorem ok_xp {f : Addr} {fd : FuncData} (F : Fun K "__init__" "BadPart.__init__" s_BadPart_init f fd) (T : Txt K mg A) : FnOk P w K mg base CX0 1 f fd ["self", "part"] (spXI A.BadPart "part") := by
  refine F.ok sc_BadPart_init (fun vs H Q E h => ?_) (fun cdv A' outer s H vs Q E hr h => ?_)
  · obtain ⟨a, y, rfl, _⟩ := h
    rfl
  · obtain ⟨a, y, rfl, ha, q⟩ := h
    refine ⟨_, pss_one (ps_ost (pv 0) (pv 1)), ?_⟩
    exact ⟨_, rfl, _, rfl, a, A.BadPart, rfl, T.BadPart.ox, T.BadPart.noA, .inl ⟨ha, fun dx h1 h2 => q dx h1 h2⟩⟩
theorem ok_xb {f : Addr} {fd : FuncData} (F : Fun K "__init__" "BadBox.__init__" s_BadBox_init f fd) (T : Txt K mg A) : FnOk P w K mg base CX0 1 f fd ["self", "index"] (spXI A.BadBox "index") := by
  refine F.ok sc_BadBox_init (fun vs H Q E h => ?_) (fun cdv A' outer s H vs Q E hr h => ?_)
  · obtain ⟨a, y, rfl, _⟩ := h
    rfl
  · obtain ⟨a, y, rfl, ha, q⟩ := h
    refine ⟨_, pss_one (ps_ost (pv 0) (pv 1)), ?_⟩
    exact ⟨_, rfl, _, rfl, a, A.BadBox, rfl, T.BadBox.ox, T.BadBox.noA, .inl ⟨ha, fun dx h1 h2 => q dx h1 h2⟩⟩
theorem ok_xn {f : Addr} {fd : FuncData} (F : Fun K "__init__" "NoWay.__init__" s_NoWay_init f fd) (T : Txt K mg A) : FnOk P w K mg base CX0 1 f fd ["self", "way"] (spXI A.NoWay "way") := by
  refine F.ok sc_NoWay_init (fun vs H Q E h => ?_) (fun cdv A' outer s H vs Q E hr h => ?_)
  · obtain ⟨a, y, rfl, _⟩ := h
    rfl
  · obtain ⟨a, y, rfl, ha, q⟩ := h
    refine ⟨_, pss_one (ps_ost (pv 0) (pv 1)), ?_⟩
    exact ⟨_, rfl, _, rfl, a, A.NoWay, rfl, T.NoWay.ox, T.NoWay.noA, .inl ⟨ha, fun dx h1 h2 => q dx h1 h2⟩⟩
/-! kinds, told by the data -/
def spInteger (K : PySem.W.Frag) : Sp := fun vs H Q _ => ∃ v d, vs = [v] ∧ Dp K H v d ∧ Q (.bl (isIntD d && !isBoolD d)) H
theorem ok_integer {f : Addr} {fd : FuncData} (F : Fun K "is_integer" "is_integer" s_is_integer f fd) (T : Txt K mg A) : FnOk P w K mg base CX0 1 f fd pm_is_integer (spInteger K) := by
  refine F.ok sc_is_integer (fun vs H Q E h => ?_) (fun cdv A' outer s H vs Q E hr h => ?_)
  · obtain ⟨v, k, rfl, _⟩ := h
    rfl
  · obtain ⟨v, d, rfl, hk, q⟩ := h
    refine ⟨_, pss_one (ps_ret (pe_and (pe_callB call_isi (by rfl) T.n_isinstance (by decide +kernel) (pa_cons (pv 0) (pa_cons (pe_bltn (v := .ty "int") (by rfl) T.n_int (by decide +kernel) rfl) pa_nil))) (pe_one (pe_not (pe_callB call_isi (by rfl) T.n_isinstance (by decide +kernel) (pa_cons (pv 0) (pa_cons (pe_bltn (v := .ty "bool") (by rfl) T.n_bool (by decide +kernel) rfl) pa_nil))))))), ?_⟩
    refine ⟨v, rfl, v, .ty "int", .type (tnD d), .type "int", isIntD d, rfl, .ty _, dp_ty hk, kd_int, _, rfl, ?_⟩
    cases h1 : isIntD d with
    | true =>
      rw [h1] at q
      exact iteT ⟨v, rfl, v, .ty "bool", .type (tnD d), .type "bool", isBoolD d, rfl, .ty _, dp_ty hk, kd_bool, _, rfl, q⟩
    | false =>
      rw [h1] at q
      exact iteF q
def spBetween (K : PySem.W.Frag) : Sp := fun vs H Q _ => ∃ v d a b, vs = [v, .int a, .int b] ∧ Dp K H v d ∧ Q (.bl (betD d a b)) H
theorem ok_between {f : Addr} {fd : FuncData} (F : Fun K "is_between" "is_between" s_is_between f fd) (O_is_integer : Own P w K mg base CX0 "is_integer" 1 pm_is_integer (spInteger K)) : FnOk P w K mg base CX0 2 f fd pm_is_between (spBetween K) := by
  refine F.ok sc_is_between (fun vs H Q E h => ?_) (fun cdv A' outer s H vs Q E hr h => ?_)
  · obtain ⟨v, k, a, b, rfl, _⟩ := h
    rfl
  · obtain ⟨v, d, a, b, rfl, hk, q⟩ := h
    refine ⟨_, pss_one (ps_ret (pe_and (pe_own O_is_integer (hr.mono (by decide)) pass0 (pa_cons (pv 0) pa_nil)) (pe_one (pe_chain op_le op_le (pv 1) (pv 0) (pv 2))))), ?_⟩
    refine ⟨v, rfl, v, d, rfl, hk, _, rfl, ?_⟩
    cases h1 : (isIntD d && !isBoolD d) with
    | true =>
      obtain ⟨n, rfl⟩ := int_yes h1
      obtain rfl := dp_int hk
      refine iteT ⟨_, rfl, _, rfl, _, _, rfl, rfl, _, rfl, ?_⟩
      rw [bet_int] at q
      cases h2 : decide (a ≤ n) with
      | true =>
        rw [h2] at q
        exact iteT ⟨_, rfl, _, _, rfl, rfl, q⟩
      | false =>
        rw [h2] at q
        exact iteF q
    | false =>
      rw [bet_not h1] at q
      exact iteF q
def spIsList (K : PySem.W.Frag) : Sp := fun vs H Q _ => ∃ v t k, vs = [v] ∧ (∀ H', Ext H H' → TyX K H' v t) ∧ PySem.W.kitAny K t [.type "list", .type "tuple"] = some k ∧ ∀ H', Ext H H' → Q (.bl k) H'
theorem ok_isList {f : Addr} {fd : FuncData} (F : Fun K "is_list" "is_list" s_is_list f fd) (T : Txt K mg A) : FnOk P w K mg base CX0 1 f fd pm_is_list (spIsList K) := by
  refine F.ok sc_is_list (fun vs H Q E h => ?_) (fun cdv A' outer s H vs Q E hr h => ?_)
  · obtain ⟨v, t, k, rfl, _⟩ := h
    rfl
  · obtain ⟨v, t, k, rfl, hk, hs, q⟩ := h
    refine ⟨_, pss_one (ps_ret (pe_callB call_isiT (by rfl) T.n_isinstance (by decide +kernel) (pa_cons (pv 0) (pa_cons (pe_tup (pa_cons (pe_bltn (v := .ty "list") (by rfl) T.n_list (by decide +kernel) rfl) (pa_cons (pe_bltn (v := .ty "tuple") (by rfl) T.n_tuple (by decide +kernel) rfl) pa_nil))) pa_nil)))), ?_⟩
    refine ⟨v, rfl, by show 2 ≤ sizeLine; decide, fun p hp => ?_⟩
    exact ⟨v, p, [.ty "list", .ty "tuple"], t, [.type "list", .type "tuple"], k, rfl, upd_same, .cons (.ty _) (.cons (.ty _) .nil), hk _ (Ext.upd hp), hs, q _ (Ext.upd hp)⟩
def spListOf (K : PySem.W.Frag) : Sp := fun vs H Q _ => ∃ v t k a b xs, vs = [v, .int a, .int b] ∧ (∀ H', Ext H H' → TyX K H' v t) ∧ PySem.W.kitAny K t [.type "list", .type "tuple"] = some k ∧ (k = true → ∃ p, v = .ref p ∧ (SqL K H p xs ∨ SqT K H p xs)) ∧
  ∀ H', Ext H H' → Q (.bl (k && (decide (a ≤ (xs.length : Int)) && decide ((xs.length : Int) ≤ b)))) H'
theorem dp_lenD {H : Hp} {xs : List V} {ds : List PyData} {d : PyData} (ha : DpAll K H xs ds) (h : d = .list ds ∨ d = .tuple ds) : lenD d = xs.length := by
  rw [dps_len ha]
  rcases h with rfl | rfl <;> rfl
theorem ok_listOf {f : Addr} {fd : FuncData} (F : Fun K "is_list_of" "is_list_of" s_is_list_of f fd) (T : Txt K mg A) (O_is_list : Own P w K mg base CX0 "is_list" 1 pm_is_list (spIsList K)) : FnOk P w K mg base CX0 2 f fd pm_is_list_of (spListOf K) := by
  refine F.ok sc_is_list_of (fun vs H Q E h => ?_) (fun cdv A' outer s H vs Q E hr h => ?_)
  · obtain ⟨v, t, k, a, b, xs, rfl, _⟩ := h
    rfl
  · obtain ⟨v, t, k, a, b, xs, rfl, hk, hs, hq, q⟩ := h
    refine ⟨_, pss_one (ps_ret (pe_and (pe_own O_is_list (hr.mono (by decide)) pass0 (pa_cons (pv 0) pa_nil)) (pe_one (pe_chain op_le op_le (pv 1) (pe_callB call_len_seq (by rfl) T.n_len (by decide +kernel) (pa_cons (pv 0) pa_nil)) (pv 2))))), ?_⟩
    refine ⟨v, rfl, v, t, k, rfl, hk, hs, fun H1 e1 => ⟨_, rfl, ?_⟩⟩
    have q1 := q H1 e1
    cases k with
    | false => exact iteF q1
    | true =>
      obtain ⟨p, rfl, hx⟩ := hq rfl
      refine iteT ⟨_, rfl, _, rfl, p, xs, rfl, hx.imp (fun h => h.ext e1) (fun h => h.ext e1), _, _, rfl, rfl, _, rfl, ?_⟩
      cases h2 : decide (a ≤ (xs.length : Int)) with
      | true =>
        rw [h2] at q1
        exact iteT ⟨_, rfl, _, _, rfl, rfl, q1⟩
      | false =>
        rw [h2] at q1
        exact iteF q1
/-- from the data -/
theorem listOf_key {H : Hp} {v : V} {d : PyData} (h : Dp K H v d) : ∃ t xs, (∀ H', Ext H H' → TyX K H' v t) ∧ PySem.W.kitAny K t [.type "list", .type "tuple"] = some (isSeqD d) ∧ (isSeqD d = true → ∃ p, v = .ref p ∧ (SqL K H p xs ∨ SqT K H p xs)) ∧
    ∀ a b : Int, (isSeqD d && (decide (a ≤ (xs.length : Int)) && decide ((xs.length : Int) ≤ b))) = (isSeqD d && (decide (a ≤ (lenD d : Int)) && decide ((lenD d : Int) ≤ b))) := by
  cases hs : isSeqD d with
  | false => exact ⟨_, [], fun H' e => dp_ty (dp_ext e _ _ h), by rw [kd_seq, hs], (fun z => nomatch z), fun a b => rfl⟩
  | true =>
    obtain ⟨p, xs, ds, rfl, hx, ha, hd⟩ := dp_seq h hs
    exact ⟨_, xs, fun H' e => dp_ty (dp_ext e _ _ h), by rw [kd_seq, hs], fun _ => ⟨p, rfl, hx⟩, fun a b => by rw [dp_lenD ha hd]⟩
def spTupleOf (K : PySem.W.Frag) : Sp := fun vs H Q _ => ∃ v d a, vs = [v, .int a] ∧ Dp K H v d ∧ Q (.bl (isTupD d && decide ((lenD d : Int) = a))) H
theorem dvi {a b : Int} : decide (V.int a = V.int b) = decide (a = b) := by simp
theorem ok_tupleOf {f : Addr} {fd : FuncData} (F : Fun K "is_tuple_of" "is_tuple_of" s_is_tuple_of f fd) (T : Txt K mg A) : FnOk P w K mg base CX0 1 f fd pm_is_tuple_of (spTupleOf K) := by
  refine F.ok sc_is_tuple_of (fun vs H Q E h => ?_) (fun cdv A' outer s H vs Q E hr h => ?_)
  · obtain ⟨v, d, a, rfl, _⟩ := h
    rfl
  · obtain ⟨v, d, a, rfl, hk, q⟩ := h
    refine ⟨_, pss_one (ps_ret (pe_and (pe_callB call_isi (by rfl) T.n_isinstance (by decide +kernel) (pa_cons (pv 0) (pa_cons (pe_bltn (v := .ty "tuple") (by rfl) T.n_tuple (by decide +kernel) rfl) pa_nil))) (pe_one (pe_cmpR op_eq (pe_callB call_len_seq (by rfl) T.n_len (by decide +kernel) (pa_cons (pv 0) pa_nil)) (pv 1) (nomark _))))), ?_⟩
    refine ⟨v, rfl, v, .ty "tuple", .type (tnD d), .type "tuple", isTupD d, rfl, .ty _, dp_ty hk, kd_tup, _, rfl, ?_⟩
    cases h1 : isTupD d with
    | true =>
      rw [h1] at q
      obtain ⟨p, xs, ds, rfl, hx, ha, hd⟩ := dp_tup hk h1
      rw [dp_lenD ha (.inr hd)] at q
      refine iteT ⟨_, rfl, p, xs, rfl, .inr hx, _, rfl, rfl, ?_⟩
      show Q (.bl (decide (V.int (xs.length : Int) = V.int a))) H
      rw [dvi]
      exact q
    | false =>
      rw [h1] at q
      exact iteF q
/-! what a way is made of -/
def beginD (d : PyData) : Bool := isNoneD d || betD d 0 1000
def spBegin (K : PySem.W.Frag) : Sp := fun vs H Q _ => ∃ v d, vs = [v] ∧ Dp K H v d ∧ Q (.bl (beginD d)) H
theorem ok_begin {f : Addr} {fd : FuncData} (F : Fun K "is_begin" "is_begin" s_is_begin f fd) (T : Txt K mg A) (O_is_between : Own P w K mg base CX0 "is_between" 2 pm_is_between (spBetween K)) : FnOk P w K mg base CX0 3 f fd pm_is_begin (spBegin K) := by
  refine F.ok sc_is_begin (fun vs H Q E h => ?_) (fun cdv A' outer s H vs Q E hr h => ?_)
  · obtain ⟨v, d, rfl, _⟩ := h
    rfl
  · obtain ⟨v, d, rfl, hk, q⟩ := h
    refine ⟨_, pss_one (ps_ret (pe_or (pe_cmpR op_isN (pv 0) (pe_non) (nomark _)) (pe_one (pe_own O_is_between (hr.mono (by decide)) pass0 (pa_cons (pv 0) (pa_cons (pe_int) (pa_cons (pe_gint T.g_MOST_BEGIN) pa_nil))))))), ?_⟩
    cases hk with
    | non => exact ⟨_, rfl, rfl, _, rfl, iteT q⟩
    | bl b => exact ⟨_, rfl, rfl, _, rfl, iteF ⟨_, rfl, _, _, 0, 1000, rfl, .bl b, q⟩⟩
    | int i => exact ⟨_, rfl, rfl, _, rfl, iteF ⟨_, rfl, _, _, 0, 1000, rfl, .int i, q⟩⟩
    | str b => exact ⟨_, rfl, rfl, _, rfl, iteF ⟨_, rfl, _, _, 0, 1000, rfl, .str b, q⟩⟩
    | lst a b => exact ⟨_, rfl, rfl, _, rfl, iteF ⟨_, rfl, _, _, 0, 1000, rfl, .lst a b, q⟩⟩
    | tup a b => exact ⟨_, rfl, rfl, _, rfl, iteF ⟨_, rfl, _, _, 0, 1000, rfl, .tup a b, q⟩⟩
def delaysD : PyData → PyData → Bool
  | .int l, .int m => decide (1 ≤ l) && decide (l ≤ m) && decide (m ≤ 50)
  | _, _ => false
def spDelays (K : PySem.W.Frag) : Sp := fun vs H Q _ => ∃ v u d e, vs = [v, u] ∧ Dp K H v d ∧ Dp K H u e ∧ Q (.bl (delaysD d e)) H
theorem delays_m {d e : PyData} (h : betD e 1 50 = false) : delaysD d e = false := by
  cases e <;> first | (cases d <;> rfl) | skip
  rename_i m
  cases d <;> first | rfl | skip
  rename_i l
  rw [bet_int] at h
  simp only [delaysD]
  simp at h ⊢
  omega
theorem delays_l {d : PyData} {m : Int} (h1 : 1 ≤ m ∧ m ≤ 50) : delaysD d (.int m) = betD d 1 m := by
  cases d <;> first | rfl | skip
  rename_i l
  rw [bet_int]
  simp only [delaysD]
  rw [decide_eq_true h1.2, Bool.and_true]
theorem ok_delays {f : Addr} {fd : FuncData} (F : Fun K "are_delays" "are_delays" s_are_delays f fd) (T : Txt K mg A) (O_is_between : Own P w K mg base CX0 "is_between" 2 pm_is_between (spBetween K)) : FnOk P w K mg base CX0 3 f fd pm_are_delays (spDelays K) := by
  refine F.ok sc_are_delays (fun vs H Q E h => ?_) (fun cdv A' outer s H vs Q E hr h => ?_)
  · obtain ⟨v, u, d, e, rfl, _⟩ := h
    rfl
  · obtain ⟨v, u, d, e, rfl, hk, hu, q⟩ := h
    refine ⟨_, pss_one (ps_ret (pe_and (pe_own O_is_between (hr.mono (by decide)) pass0 (pa_cons (pv 1) (pa_cons (pe_int) (pa_cons (pe_gint T.g_MOST_DELAY) pa_nil)))) (pe_one (pe_own O_is_between (hr.mono (by decide)) pass0 (pa_cons (pv 0) (pa_cons (pe_int) (pa_cons (pv 1) pa_nil))))))), ?_⟩
    refine ⟨u, rfl, u, e, 1, 50, rfl, hu, _, rfl, ?_⟩
    cases h1 : betD e 1 50 with
    | false =>
      rw [delays_m h1] at q
      exact iteF q
    | true =>
      obtain ⟨m, rfl, m1, m2⟩ := bet_yes h1
      obtain rfl := dp_int hu
      rw [delays_l ⟨m1, m2⟩] at q
      exact iteT ⟨v, rfl, _, rfl, v, d, 1, m, rfl, hk, q⟩
end
end K18

set_option Elab.async false
set_option maxRecDepth 100000
set_option maxHeartbeats 4000000
namespace K18
open PySem PySem.Spec PyProof.Rows L2
section
variable {P : Program} {w : World} {K : PySem.W.Frag} {mg : Str → Option Value} {base : Heap} {A : Ad}
def boxD (d : PyData) (l m : Int) : Bool := match d with
  | .tuple [.int n, .int f, .int s, .int g] => decide (0 ≤ n ∧ n ≤ f ∧ f ≤ m ∧ n ≤ l ∧ 1 ≤ s ∧ s ≤ g ∧ g ≤ 10000)
  | _ => false
theorem box_f {a b c d : PyData} {l m : Int} (h : betD b 0 m = false) : boxD (.tuple [a, b, c, d]) l m = false := by
  cases a <;> first | rfl | skip
  cases b <;> first | rfl | skip
  cases c <;> first | rfl | skip
  cases d <;> first | rfl | skip
  rw [bet_int] at h
  simp at h
  simp only [boxD]
  rw [decide_eq_false (by omega)]
theorem box_n {a c d : PyData} {f l m : Int} (h : betD a 0 f = false) : boxD (.tuple [a, .int f, c, d]) l m = false := by
  cases a <;> first | rfl | skip
  cases c <;> first | rfl | skip
  cases d <;> first | rfl | skip
  rw [bet_int] at h
  simp at h
  simp only [boxD]
  rw [decide_eq_false (by omega)]
theorem box_l {c d : PyData} {n f l m : Int} (h : l < n) : boxD (.tuple [.int n, .int f, c, d]) l m = false := by
  cases c <;> first | rfl | skip
  cases d <;> first | rfl | skip
  simp only [boxD]
  rw [decide_eq_false (by omega)]
theorem box_g {c d : PyData} {n f l m : Int} (h : betD d 1 10000 = false) : boxD (.tuple [.int n, .int f, c, d]) l m = false := by
  cases c <;> first | rfl | skip
  cases d <;> first | rfl | skip
  rw [bet_int] at h
  simp at h
  simp only [boxD]
  rw [decide_eq_false (by omega)]
theorem box_s {c : PyData} {n f g l m : Int} (h : 0 ≤ n ∧ n ≤ f ∧ f ≤ m ∧ n ≤ l ∧ g ≤ 10000) : boxD (.tuple [.int n, .int f, c, .int g]) l m = betD c 1 g := by
  cases c <;> first | rfl | skip
  simp only [boxD]
  rw [bet_int, Bool.eq_iff_iff]
  simp
  omega
theorem box_t {d : PyData} {l m : Int} (h : (isTupD d && decide ((lenD d : Int) = 4)) = false) : boxD d l m = false := by
  unfold boxD
  split
  · exact absurd h (by simp [isTupD, lenD])
  · rfl
def spBoxOk (K : PySem.W.Frag) : Sp := fun vs H Q _ => ∃ v d l m, vs = [v, .int l, .int m] ∧ Dp K H v d ∧ Q (.bl (boxD d l m)) H
theorem ok_box {f : Addr} {fd : FuncData} (F : Fun K "is_box" "is_box" s_is_box f fd) (T : Txt K mg A) (O_is_between : Own P w K mg base CX0 "is_between" 2 pm_is_between (spBetween K)) (O_is_tuple_of : Own P w K mg base CX0 "is_tuple_of" 1 pm_is_tuple_of (spTupleOf K)) : FnOk P w K mg base CX0 3 f fd pm_is_box (spBoxOk K) := by
  refine F.ok sc_is_box (fun vs H Q E h => ?_) (fun cdv A' outer s H vs Q E hr h => ?_)
  · obtain ⟨v, d, l, m, rfl, _⟩ := h
    rfl
  · obtain ⟨v, d, l, m, rfl, hk, q⟩ := h
    refine ⟨_, pss_cons (ps_if (pt_not (pt_val (pe_own O_is_tuple_of (hr.mono (by decide)) pass0 (pa_cons (pv 0) (pa_cons (pe_int) pa_nil))))) (pss_one (ps_ret (pe_bl))) (pss_nil))
      (pss_cons (ps_asg (pv 0) (pg_tup rfl (pgs_cons (pg_name (i := 3) sc_is_box.nd rfl (Or.inl rfl)) (pgs_cons (pg_name (i := 4) sc_is_box.nd rfl (Or.inl rfl)) (pgs_cons (pg_name (i := 5) sc_is_box.nd rfl (Or.inl rfl)) (pgs_cons (pg_name (i := 6) sc_is_box.nd rfl (Or.inl rfl)) (pgs_nil)))))))
      (pss_cons (ps_if (PW.pt (pw_or (pt_not (pt_val (pe_own O_is_between (hr.mono (by decide)) pass0 (pa_cons (pv 4) (pa_cons (pe_int) (pa_cons (pv 2) pa_nil)))))) (pw_or (pt_not (pt_val (pe_own O_is_between (hr.mono (by decide)) pass0 (pa_cons (pv 3) (pa_cons (pe_int) (pa_cons (pv 4) pa_nil)))))) (pw_or1 (pt_cmpR op_gt (pv 3) (pv 1) (nomark _)))))) (pss_one (ps_ret (pe_bl))) (pss_nil))
      (pss_one (ps_ret (pe_and (pe_own O_is_between (hr.mono (by decide)) pass0 (pa_cons (pv 6) (pa_cons (pe_int) (pa_cons (pe_gint T.g_MOST_KEEP) pa_nil)))) (pe_one (pe_own O_is_between (hr.mono (by decide)) pass0 (pa_cons (pv 5) (pa_cons (pe_int) (pa_cons (pv 6) pa_nil)))))))))), ?_⟩
    refine ⟨v, rfl, v, d, 4, rfl, hk, _, rfl, ?_⟩
    cases h1 : (isTupD d && decide ((lenD d : Int) = 4)) with
    | false =>
      rw [box_t h1] at q
      exact iteT q
    | true =>
      refine iteF ?_
      rw [Bool.and_eq_true, decide_eq_true_eq] at h1
      obtain ⟨p, xs, ds, rfl, hx, ha, rfl⟩ := dp_tup hk h1.1
      have hl : ds.length = 4 := by
        have z : ((ds.length : Nat) : Int) = 4 := h1.2
        omega
      match ds, hl, ha, q with
      | [da, db, dc, dd], _, ha, q =>
        cases ha with
        | @cons va _ _ _ ha1 ha =>
          cases ha with
          | @cons vb _ _ _ hb1 ha =>
            cases ha with
            | @cons vc _ _ _ hc1 ha =>
              cases ha with
              | @cons vd _ _ _ hd1 ha =>
                cases ha
                refine ⟨_, rfl, p, _, rfl, hx, rfl, ?_⟩
                refine ⟨_, _, rfl, _, _, rfl, _, _, rfl, _, _, rfl, rfl, ?_⟩
                refine ⟨vb, rfl, _, rfl, vb, db, 0, m, rfl, hb1, _, rfl, ?_⟩
                cases h2 : betD db 0 m with
                | false =>
                  rw [box_f h2] at q
                  exact iteT q
                | true =>
                  refine iteF ?_
                  obtain ⟨f, rfl, f0, fm⟩ := bet_yes h2
                  obtain rfl := dp_int hb1
                  refine ⟨va, rfl, _, rfl, va, da, 0, f, rfl, ha1, _, rfl, ?_⟩
                  cases h3 : betD da 0 f with
                  | false =>
                    rw [box_n h3] at q
                    exact iteT q
                  | true =>
                    refine iteF ?_
                    obtain ⟨n, rfl, n0, nf⟩ := bet_yes h3
                    obtain rfl := dp_int ha1
                    refine ⟨_, rfl, _, rfl, _, _, rfl, rfl, _, rfl, ?_⟩
                    by_cases h4 : n > l
                    · rw [decide_eq_true h4]
                      rw [box_l h4] at q
                      exact iteT q
                    · rw [decide_eq_false h4]
                      refine iteF ?_
                      refine ⟨vd, rfl, vd, dd, 1, 10000, rfl, hd1, _, rfl, ?_⟩
                      cases h5 : betD dd 1 10000 with
                      | false =>
                        rw [box_g h5] at q
                        exact iteF q
                      | true =>
                        obtain ⟨g, rfl, g1, g2⟩ := bet_yes h5
                        obtain rfl := dp_int hd1
                        rw [box_s ⟨n0, nf, fm, by omega, g2⟩] at q
                        exact iteT ⟨vc, rfl, _, rfl, vc, dc, 1, g, rfl, hc1, q⟩
/-! ### Way -/
def itemsD : PyData → Option (List PyData) | .list ds => some ds | .tuple ds => some ds | _ => none
/-- what is wrong first: a part's word or a box's place -/
def wayDue (b l m x : PyData) : Option (Str ⊕ Nat) :=
  if beginD b = false then some (.inl "begin") else if delaysD l m = false then some (.inl "delays") else
    if (isSeqD x && (decide ((0 : Int) ≤ (lenD x : Int)) && decide ((lenD x : Int) ≤ 3))) = false then some (.inl "boxes") else
    match l, m, itemsD x with
    | .int l, .int m, some ds => (ds.findIdx? fun d => !boxD d l m).map .inr
    | _, _, _ => none
def wF (b l m x : V) : List (Str × V) := [("begin", b), ("least", l), ("most", m), ("boxes", x)]
/-- a way at p: its begin, delays, and the data of its boxes -/
def WayAt (K : PySem.W.Frag) (A : Ad) (H : Hp) (p : Addr) (b l m : V) (ds : List PyData) : Prop := ∃ dx T xs, H p = some (.ins A.Way dx (wF b l m (.ref T))) ∧ SqT K H T xs ∧ DpAll K H xs ds
def spWayInit (K : PySem.W.Frag) (A : Ad) : Sp := fun vs H Q E => ∃ (p dx : Addr) (vb vl vm vx : V) (b l m x : PyData), vs = [.ref p, vb, vl, vm, vx] ∧ H p = some (.ins A.Way dx []) ∧ Dp K H vb b ∧ Dp K H vl l ∧ Dp K H vm m ∧ Dp K H vx x ∧
  (∀ s, wayDue b l m x = some (.inl s) → ∀ H', Ext H H' → ∀ e, H' e = none → E (.ref A.BadPart) (some e) (upd H' e (.xd [("part", .str s)]))) ∧
  (∀ i, wayDue b l m x = some (.inr i) → ∀ H', Ext H H' → ∀ e, H' e = none → E (.ref A.BadBox) (some e) (upd H' e (.xd [("index", .int (i : Nat))]))) ∧
  (wayDue b l m x = none → ∀ ds H', itemsD x = some ds → (∃ T xs, H' p = some (.ins A.Way dx (wF vb vl vm (.ref T))) ∧ SqT K H' T xs ∧ DpAll K H' xs ds) → (∀ x o, x ≠ p → H x = some o → H' x = some o) → Q .non H')
theorem find_at {ds : List PyData} {f : PyData → Bool} {i : Nat} {d : PyData} (h0 : ∀ (j : Nat) (d : PyData), j < i → ds[j]? = some d → f d = false) (hd : ds[i]? = some d) (h : f d = true) : ds.findIdx? f = some i := by
  induction ds generalizing i with
  | nil => cases hd
  | cons x xs ih =>
    rw [List.findIdx?_cons]
    cases i with
    | zero =>
      cases hd
      rw [h]
      rfl
    | succ i =>
      rw [h0 0 x (Nat.succ_pos _) rfl]
      have z := ih (i := i) (fun j d hj hd => h0 (j + 1) d (Nat.succ_lt_succ hj) hd) hd
      rw [z]
      rfl
theorem find_no {ds : List PyData} {f : PyData → Bool} (h0 : ∀ (j : Nat) (d : PyData), ds[j]? = some d → f d = false) : ds.findIdx? f = none := by
  rw [List.findIdx?_eq_none_iff]
  intro x hx
  obtain ⟨j, hj⟩ := List.mem_iff_getElem?.mp hx
  exact h0 j x hj
theorem delays_yes {d e : PyData} (h : delaysD d e = true) : ∃ l m, d = .int l ∧ e = .int m ∧ 1 ≤ l ∧ l ≤ m ∧ m ≤ 50 := by
  cases d <;> first | cases h | skip
  cases e <;> first | cases h | skip
  simp only [delaysD, Bool.and_eq_true, decide_eq_true_eq] at h
  exact ⟨_, _, rfl, rfl, h.1.1, h.1.2, h.2⟩
section
variable {H H' : Hp} {p a C dx : Addr} {fs : List (Str × V)} {xs : List V}
theorem sqL_mut (hp : H p = some (.ins C dx fs)) (e : ∀ x o, x ≠ p → H x = some o → H' x = some o) (h : SqL K H a xs) : SqL K H' a xs := by
  rcases h with (h | ⟨o, h⟩) | h
  · exact .inl (.inl (e a _ (fun z => by rw [z, hp] at h; cases h) h))
  · exact .inl (.inr ⟨o, e a _ (fun z => by rw [z, hp] at h; cases h) h⟩)
  · exact .inr h
theorem sqT_mut (hp : H p = some (.ins C dx fs)) (e : ∀ x o, x ≠ p → H x = some o → H' x = some o) (h : SqT K H a xs) : SqT K H' a xs := by
  rcases h with (h | ⟨o, h⟩) | h
  · exact .inl (.inl (e a _ (fun z => by rw [z, hp] at h; cases h) h))
  · exact .inl (.inr ⟨o, e a _ (fun z => by rw [z, hp] at h; cases h) h⟩)
  · exact .inr h
mutual
theorem dp_mut (hp : H p = some (.ins C dx fs)) (e : ∀ x o, x ≠ p → H x = some o → H' x = some o) : ∀ (d : PyData) (v : V), Dp K H v d → Dp K H' v d
  | .none, _, h => by cases h; exact .non
  | .bool _, _, h => by cases h; exact .bl _
  | .int _, _, h => by cases h; exact .int _
  | .str _, _, h => by cases h; exact .str _
  | .list ds, _, h => by
    cases h with
    | lst hs ha => exact .lst (sqL_mut hp e hs) (dps_mut hp e ds _ ha)
  | .tuple ds, _, h => by
    cases h with
    | tup hs ha => exact .tup (sqT_mut hp e hs) (dps_mut hp e ds _ ha)
  | .dict _, _, h => by cases h
theorem dps_mut (hp : H p = some (.ins C dx fs)) (e : ∀ x o, x ≠ p → H x = some o → H' x = some o) : ∀ (ds : List PyData) (vs : List V), DpAll K H vs ds → DpAll K H' vs ds
  | [], _, h => by cases h; exact .nil
  | d :: ds, _, h => by
    cases h with
    | cons h1 h2 => exact .cons (dp_mut hp e d _ h1) (dps_mut hp e ds _ h2)
end
end
theorem ok_wayInit {f : Addr} {fd : FuncData} (F : FunD K "__init__" "Way.__init__" (defArgs s_Way_init) (defBody s_Way_init) (defScope s_Way_init) [.ref A.T0] [] f fd) (T : Txt K mg A)
    (O_is_begin : Own P w K mg base CX0 "is_begin" 3 pm_is_begin (spBegin K)) (O_are_delays : Own P w K mg base CX0 "are_delays" 3 pm_are_delays (spDelays K)) (O_is_list_of : Own P w K mg base CX0 "is_list_of" 2 pm_is_list_of (spListOf K))
    (O_is_box : Own P w K mg base CX0 "is_box" 3 pm_is_box (spBoxOk K)) (X_BadPart : XCls P w K mg base "BadPart" "part" A.BadPart) (X_BadBox : XCls P w K mg base "BadBox" "index" A.BadBox) : FnOk P w K mg base (L2.CX P w) 5 f fd pm_Way_init (spWayInit K A) := by
  refine F.ok sc_Way_init (fun vs H Q E h => ?_) (fun cdv A' outer s H vs Q E hr h => ?_)
  · obtain ⟨_, _, _, _, _, _, _, _, _, _, rfl, _⟩ := h
    rfl
  · obtain ⟨p, dx, vb, vl, vm, vx, b, l, m, x, rfl, hp, hb, hl, hm, hx, hEp, hEb, hQ⟩ := h
    refine ⟨_, pss_cons (ps_if (pt_not (pt_val (pe_own O_is_begin (hr.mono (by decide)) pass0 (pa_cons (pv 1) pa_nil)))) (pss_one (ps_raise rfl (takes_of rfl rfl rfl rfl) (pmk_X X_BadPart (hr.mono (by decide)) (pe_str) rfl))) (pss_nil))
      (pss_cons (ps_if (pt_not (pt_val (pe_own O_are_delays (hr.mono (by decide)) pass0 (pa_cons (pv 2) (pa_cons (pv 3) pa_nil))))) (pss_one (ps_raise rfl (takes_of rfl rfl rfl rfl) (pmk_X X_BadPart (hr.mono (by decide)) (pe_str) rfl))) (pss_nil))
      (pss_cons (ps_if (pt_not (pt_val (pe_own O_is_list_of (hr.mono (by decide)) pass0 (pa_cons (pv 4) (pa_cons (pe_int) (pa_cons (pe_gint T.g_MOST_BOXES) pa_nil)))))) (pss_one (ps_raise rfl (takes_of rfl rfl rfl rfl) (pmk_X X_BadPart (hr.mono (by decide)) (pe_str) rfl))) (pss_nil))
      (pss_cons (ps_for (passes_of rfl) rfl (pi_enSq rfl T.n_enumerate (pa_cons (pv 4) pa_nil)) (pg_tup rfl (pgs_cons (pg_name (i := 5) sc_Way_init.nd rfl (Or.inl rfl)) (pgs_cons (pg_name (i := 6) sc_Way_init.nd rfl (Or.inl rfl)) (pgs_nil)))) (pss_one (ps_if (pt_not (pt_val (pe_own O_is_box (hr.mono (by decide)) pass0 (pa_cons (pv 6) (pa_cons (pv 2) (pa_cons (pv 3) pa_nil)))))) (pss_one (ps_raise rfl (takes_of rfl rfl rfl rfl) (pmk_X X_BadBox (hr.mono (by decide)) (pv 5) rfl))) (pss_nil))))
      (pss_cons (ps_fld (pv 0) (pv 1) rfl)
      (pss_cons (ps_fld (pv 0) (pv 2) rfl)
      (pss_cons (ps_fld (pv 0) (pv 3) rfl)
      (pss_one (ps_fld (pv 0) (pe_callTy call_tuple_of (by rfl) T.n_tuple (by decide +kernel) (pa_cons (pv 4) pa_nil)) rfl)))))))), ?_⟩
    refine ⟨vb, rfl, vb, b, rfl, hb, _, rfl, ?_⟩
    cases h1 : beginD b with
    | false => exact iteT (mkX_fin fun e he => hEp _ (by unfold wayDue; rw [if_pos h1]) _ Ext.rfl' e he)
    | true =>
      refine iteF ?_
      refine ⟨vl, rfl, vm, rfl, vl, vm, l, m, rfl, hl, hm, _, rfl, ?_⟩
      cases h2 : delaysD l m with
      | false => exact iteT (mkX_fin fun e he => hEp _ (by unfold wayDue; rw [h1, if_neg (by decide), if_pos h2]) _ Ext.rfl' e he)
      | true =>
        refine iteF ?_
        obtain ⟨li, mi, rfl, rfl, l1, lm, m50⟩ := delays_yes h2
        obtain rfl := dp_int hl
        obtain rfl := dp_int hm
        obtain ⟨tx, ix, k1, k2, k3, k4⟩ := listOf_key hx
        refine ⟨vx, rfl, vx, tx, isSeqD x, 0, 3, ix, rfl, k1, k2, k3, fun H1 e1 => ⟨_, rfl, ?_⟩⟩
        rw [k4]
        cases h3 : (isSeqD x && (decide ((0 : Int) ≤ (lenD x : Int)) && decide ((lenD x : Int) ≤ 3))) with
        | false => exact iteT (mkX_fin fun e he => hEp _ (by unfold wayDue; rw [h1, if_neg (by decide), h2, if_neg (by decide), if_pos h3]) _ e1 e he)
        | true =>
          refine iteF ?_
          have h3' := (Bool.and_eq_true_iff.mp h3).1
          obtain ⟨a, xs, ds, rfl, hsq, ha, hd⟩ := dp_seq (dp_ext e1 _ _ hx) h3'
          have hit : itemsD x = some ds := by rcases hd with rfl | rfl <;> rfl
          have due : wayDue b (.int li) (.int mi) x = (ds.findIdx? fun d => !boxD d li mi).map .inr := by
            unfold wayDue
            rw [h1, if_neg (by decide), h2, if_neg (by decide), h3, if_neg (by decide), hit]
          rw [due] at hEp hEb hQ
          have small : xs.length ≤ 3 := by
            have z := (Bool.and_eq_true_iff.mp (Bool.and_eq_true_iff.mp h3).2).2
            rw [dp_lenD ha hd, decide_eq_true_eq] at z
            omega
          refine ⟨_, rfl, a, rfl, ?_⟩
          refine for_enSq (xs := xs) hsq (fun i σ' H' => Ext H1 H' ∧ (∃ o5 o6, σ' = [some (.ref p), some vb, some (.int li), some (.int mi), some (.ref a), o5, o6]) ∧ ∀ j d, j < i → ds[j]? = some d → boxD d li mi = true)
            ⟨Ext.rfl', ⟨_, _, rfl⟩, fun j d hj _ => absurd hj (Nat.not_lt_zero _)⟩ (fun i σ' H' pv => pv.1) (fun i v σ' H' T' hi pv hT => ?_) (fun σ' H' pv => ?_)
          · obtain ⟨e2, ⟨o5, o6, rfl⟩, hok⟩ := pv
            refine ⟨T', _, rfl, SqT.of upd_same, rfl, ?_⟩
            have e3 := e2.upd' (o := .tup [.int (i : Nat), v]) hT
            obtain ⟨d, hdi, hdv⟩ := dps_get (dps_ext e3 _ _ ha) hi
            refine ⟨_, _, rfl, _, _, rfl, rfl, ?_⟩
            refine ⟨v, rfl, _, rfl, _, rfl, v, d, li, mi, rfl, hdv, _, rfl, ?_⟩
            cases h4 : boxD d li mi with
            | false =>
              refine iteT ⟨_, rfl, mkX_fin fun e he => hEb i ?_ _ (e1.trans e3) e he⟩
              rw [find_at (f := fun d => !boxD d li mi) (fun j d hj hd => by rw [hok j d hj hd]; rfl) hdi (by rw [h4]; rfl)]
              rfl
            | true =>
              refine iteF ⟨e3, ⟨_, _, rfl⟩, fun j d' hj hd' => ?_⟩
              rcases Nat.lt_succ_iff_lt_or_eq.mp hj with hj | rfl
              · exact hok j d' hj hd'
              · rw [hdi] at hd'
                cases hd'
                exact h4
          · obtain ⟨e2, ⟨o5, o6, rfl⟩, hok⟩ := pv
            have hnone : ((ds.findIdx? fun d => !boxD d li mi).map Sum.inr : Option (Str ⊕ Nat)) = none := by
              rw [find_no (f := fun d => !boxD d li mi) fun j d hd => ?_]
              · rfl
              · have hj : j < xs.length := by
                  rw [dps_len ha]
                  exact (List.getElem?_eq_some_iff.mp hd).1
                rw [hok j d hj hd]
                rfl
            have e12 := e1.trans e2
            have hp2 := e12 _ _ hp
            refine ⟨_, rfl, _, rfl, p, A.Way, dx, _, rfl, hp2, T.Way.cl, T.w_begin, (by show 0 < 1000; decide), ?_⟩
            refine ⟨_, rfl, _, rfl, p, A.Way, dx, _, rfl, upd_same, T.Way.cl, T.w_least, (by show 1 < 1000; decide), ?_⟩
            refine ⟨_, rfl, _, rfl, p, A.Way, dx, _, rfl, upd_same, T.Way.cl, T.w_most, (by show 2 < 1000; decide), ?_⟩
            have hm3 : ∀ o y, y ≠ p → H' y = some o → (upd (upd (upd H' p (.ins A.Way dx (putF "begin" vb []))) p (.ins A.Way dx (putF "least" (.int li) (putF "begin" vb [])))) p (.ins A.Way dx (putF "most" (.int mi) (putF "least" (.int li) (putF "begin" vb []))))) y = some o := fun o y hy h => by
              rw [upd_ne hy, upd_ne hy, upd_ne hy]
              exact h
            have hp3 : (upd (upd (upd H' p (.ins A.Way dx (putF "begin" vb []))) p (.ins A.Way dx (putF "least" (.int li) (putF "begin" vb [])))) p (.ins A.Way dx (putF "most" (.int mi) (putF "least" (.int li) (putF "begin" vb []))))) p = some (.ins A.Way dx (putF "most" (.int mi) (putF "least" (.int li) (putF "begin" vb [])))) := upd_same
            have hda : DpAll K H' xs ds := dps_ext e2 _ _ ha
            generalize upd (upd (upd H' p (.ins A.Way dx (putF "begin" vb []))) p (.ins A.Way dx (putF "least" (.int li) (putF "begin" vb [])))) p (.ins A.Way dx (putF "most" (.int mi) (putF "least" (.int li) (putF "begin" vb [])))) = H3 at hm3 hp3 ⊢
            refine ⟨_, rfl, a, xs, rfl, ?_⟩
            rcases hsq with hsq | hsq
            · refine .inl ⟨sqL_mut hp2 (fun y o => hm3 o y) (hsq.ext e2), fun t ht => ⟨_, rfl, p, A.Way, dx, _, rfl, Ext.upd ht _ _ hp3, T.Way.cl, T.w_boxes, (by show 3 < 1000; decide), ?_⟩⟩
              have ntp : t ≠ p := fun z => by rw [z, hp3] at ht; cases ht
              refine hQ hnone ds _ hit ⟨t, xs, upd_same, SqT.of (by rw [upd_ne ntp]; exact upd_same), ?_⟩ fun y o hy h => ?_
              · exact dps_mut hp2 (fun y o hy h => by rw [upd_ne hy]; exact Ext.upd ht _ _ (hm3 o y hy h)) _ _ hda
              · rw [upd_ne hy]
                exact Ext.upd ht _ _ (hm3 o y hy (e12 _ _ h))
            · refine .inr ⟨sqT_mut hp2 (fun y o => hm3 o y) (hsq.ext e2), _, rfl, p, A.Way, dx, _, rfl, hp3, T.Way.cl, T.w_boxes, (by show 3 < 1000; decide), ?_⟩
              refine hQ hnone ds _ hit ⟨a, xs, upd_same, sqT_mut hp2 (fun y o hy h => by rw [upd_ne hy]; exact hm3 o y hy h) (hsq.ext e2), ?_⟩ fun y o hy h => ?_
              · exact dps_mut hp2 (fun y o hy h => by rw [upd_ne hy]; exact hm3 o y hy h) _ _ hda
              · rw [upd_ne hy]
                exact hm3 o y hy (e12 _ _ h)
end
end K18

set_option Elab.async false
set_option maxRecDepth 100000
set_option maxHeartbeats 4000000
namespace K18
open PySem PySem.Spec PyProof.Rows L2
abbrev Bx := Int × Int × Int × Int
def bxD (q : Bx) : PyData := .tuple [.int q.1, .int q.2.1, .int q.2.2.1, .int q.2.2.2]
def bxOk (q : Bx) (l m : Int) : Prop := 0 ≤ q.1 ∧ q.1 ≤ q.2.1 ∧ q.2.1 ≤ m ∧ q.1 ≤ l ∧ 1 ≤ q.2.2.1 ∧ q.2.2.1 ≤ q.2.2.2 ∧ q.2.2.2 ≤ 10000
theorem box_yes {d : PyData} {l m : Int} (h : boxD d l m = true) : ∃ q, d = bxD q ∧ bxOk q l m := by
  unfold boxD at h
  split at h
  · rename_i n f s g
    rw [decide_eq_true_eq] at h
    exact ⟨(n, f, s, g), rfl, h⟩
  · cases h
theorem box_ok {q : Bx} {l m : Int} (h : bxOk q l m) : boxD (bxD q) l m = true := decide_eq_true h
theorem boxes_yes {l m : Int} : ∀ {ds : List PyData}, (∀ d ∈ ds, boxD d l m = true) → ∃ bs : List Bx, ds = bs.map bxD ∧ ∀ q ∈ bs, bxOk q l m
  | [], _ => ⟨[], rfl, fun _ h => nomatch h⟩
  | d :: ds, h => by
    obtain ⟨q, rfl, hq⟩ := box_yes (h d List.mem_cons_self)
    obtain ⟨bs, rfl, hb⟩ := boxes_yes (ds := ds) fun d hd => h d (List.mem_cons_of_mem _ hd)
    refine ⟨q :: bs, rfl, fun r hr => ?_⟩
    rcases List.mem_cons.mp hr with rfl | hr
    · exact hq
    · exact hb r hr
def bD : Option Int → PyData | some n => .int n | none => .none
def bV : Option Int → V | some n => .int n | none => .non
def bOk (b : Option Int) : Prop := ∀ n, b = some n → 0 ≤ n ∧ n ≤ 1000
theorem begin_yes {d : PyData} (h : beginD d = true) : ∃ b, d = bD b ∧ bOk b := by
  cases d with
  | none => exact ⟨none, rfl, fun n h => nomatch h⟩
  | int n =>
    have h' : betD (.int n) 0 1000 = true := h
    obtain ⟨m, e, h1, h2⟩ := bet_yes h'
    cases e
    exact ⟨some n, rfl, fun k e => by cases e; exact ⟨h1, h2⟩⟩
  | _ => cases h
theorem begin_ok {b : Option Int} (h : bOk b) : beginD (bD b) = true := by
  cases b with
  | none => rfl
  | some n =>
    obtain ⟨h1, h2⟩ := h n rfl
    show betD (.int n) 0 1000 = true
    rw [bet_int, decide_eq_true h1, decide_eq_true h2]
    rfl
theorem due_begin {b l m x : PyData} (h : beginD b = false) : wayDue b l m x = some (.inl "begin") := by
  unfold wayDue
  rw [if_pos h]
theorem due_none {b l m x : PyData} (h : wayDue b l m x = none) : ∃ (bo : Option Int) (li mi : Int) (bs : List Bx), b = bD bo ∧ bOk bo ∧ l = .int li ∧ m = .int mi ∧ (1 ≤ li ∧ li ≤ mi ∧ mi ≤ 50) ∧ itemsD x = some (bs.map bxD) ∧ bs.length ≤ 3 ∧ ∀ q ∈ bs, bxOk q li mi := by
  unfold wayDue at h
  cases h1 : beginD b with
  | false => rw [h1, if_pos rfl] at h; cases h
  | true =>
    rw [h1, if_neg (by decide)] at h
    cases h2 : delaysD l m with
    | false => rw [h2, if_pos rfl] at h; cases h
    | true =>
      rw [h2, if_neg (by decide)] at h
      obtain ⟨li, mi, rfl, rfl, d1, d2, d3⟩ := delays_yes h2
      cases h3 : (isSeqD x && (decide ((0 : Int) ≤ (lenD x : Int)) && decide ((lenD x : Int) ≤ 3))) with
      | false => rw [h3, if_pos rfl] at h; cases h
      | true =>
        rw [h3, if_neg (by decide)] at h
        obtain ⟨bo, rfl, hb⟩ := begin_yes h1
        have h4 := (Bool.and_eq_true_iff.mp (Bool.and_eq_true_iff.mp h3).2).2
        rw [decide_eq_true_eq] at h4
        have fin : ∀ ds : List PyData, itemsD x = some ds → lenD x = ds.length → (ds.findIdx? fun d => !boxD d li mi) = none → ∃ (bo' : Option Int) (li' mi' : Int) (bs : List Bx), bD bo = bD bo' ∧ bOk bo' ∧ PyData.int li = .int li' ∧ PyData.int mi = .int mi' ∧ (1 ≤ li' ∧ li' ≤ mi' ∧ mi' ≤ 50) ∧ itemsD x = some (bs.map bxD) ∧ bs.length ≤ 3 ∧ ∀ q ∈ bs, bxOk q li' mi' := by
          intro ds hi hl hf
          rw [List.findIdx?_eq_none_iff] at hf
          obtain ⟨bs, rfl, hbs⟩ := boxes_yes (ds := ds) (l := li) (m := mi) fun d hd => by
            have z := hf d hd
            cases hz : boxD d li mi with
            | true => rfl
            | false => rw [hz] at z; cases z
          refine ⟨bo, li, mi, bs, rfl, hb, rfl, rfl, ⟨d1, d2, d3⟩, hi, ?_, hbs⟩
          rw [hl, List.length_map] at h4
          omega
        cases x with
        | list ds =>
          refine fin ds rfl rfl ?_
          have h' : (ds.findIdx? fun d => !boxD d li mi).map (Sum.inr (α := Str)) = none := h
          rwa [Option.map_eq_none_iff] at h'
        | tuple ds =>
          refine fin ds rfl rfl ?_
          have h' : (ds.findIdx? fun d => !boxD d li mi).map (Sum.inr (α := Str)) = none := h
          rwa [Option.map_eq_none_iff] at h'
        | _ => cases h3
theorem due_ok {bo : Option Int} {li mi : Int} {bs : List Bx} {x : PyData} (hb : bOk bo) (hd : 1 ≤ li ∧ li ≤ mi ∧ mi ≤ 50) (hx : x = .list (bs.map bxD) ∨ x = .tuple (bs.map bxD)) (hl : bs.length ≤ 3) (hbs : ∀ q ∈ bs, bxOk q li mi) : wayDue (bD bo) (.int li) (.int mi) x = none := by
  have h2 : delaysD (.int li) (.int mi) = true := by
    simp only [delaysD]
    rw [decide_eq_true hd.1, decide_eq_true hd.2.1, decide_eq_true hd.2.2]
    rfl
  have hf : ((bs.map bxD).findIdx? fun d => !boxD d li mi) = none := by
    rw [List.findIdx?_eq_none_iff]
    intro d hd
    obtain ⟨q, hq, rfl⟩ := List.mem_map.mp hd
    rw [box_ok (hbs q hq)]
    rfl
  have h4 : decide (((bs.map bxD).length : Int) ≤ 3) = true := by
    rw [List.length_map]
    exact decide_eq_true (by omega)
  have h5 : decide ((0 : Int) ≤ ((bs.map bxD).length : Int)) = true := decide_eq_true (by omega)
  unfold wayDue
  rw [begin_ok hb, if_neg (by decide), h2, if_neg (by decide)]
  rcases hx with rfl | rfl
  · have h3 : (isSeqD (.list (bs.map bxD)) && (decide ((0 : Int) ≤ (lenD (.list (bs.map bxD)) : Int)) && decide ((lenD (.list (bs.map bxD)) : Int) ≤ 3))) = true := by
      show (true && (decide ((0 : Int) ≤ ((bs.map bxD).length : Int)) && decide (((bs.map bxD).length : Int) ≤ 3))) = true
      rw [h4, h5]
      rfl
    rw [h3, if_neg (by decide)]
    show ((bs.map bxD).findIdx? fun d => !boxD d li mi).map (Sum.inr (α := Str)) = none
    rw [hf]
    rfl
  · have h3 : (isSeqD (.tuple (bs.map bxD)) && (decide ((0 : Int) ≤ (lenD (.tuple (bs.map bxD)) : Int)) && decide ((lenD (.tuple (bs.map bxD)) : Int) ≤ 3))) = true := by
      show (true && (decide ((0 : Int) ≤ ((bs.map bxD).length : Int)) && decide (((bs.map bxD).length : Int) ≤ 3))) = true
      rw [h4, h5]
      rfl
    rw [h3, if_neg (by decide)]
    show ((bs.map bxD).findIdx? fun d => !boxD d li mi).map (Sum.inr (α := Str)) = none
    rw [hf]
    rfl
theorem eqv_bx (q r : Bx) : PyData.eqv (bxD q) (bxD r) = decide (q = r) := by
  obtain ⟨a, b, c, d⟩ := q
  obtain ⟨a', b', c', d'⟩ := r
  have h := eqv_ints [a, b, c, d] [a', b', c', d']
  show PyData.eqvAll [.int a, .int b, .int c, .int d] [.int a', .int b', .int c', .int d'] = _
  rw [show PyData.eqvAll [.int a, .int b, .int c, .int d] [.int a', .int b', .int c', .int d'] = decide ([a, b, c, d] = [a', b', c', d']) from h]
  simp
theorem eqv_bxs : ∀ (bs cs : List Bx), PyData.eqvAll (bs.map bxD) (cs.map bxD) = decide (bs = cs)
  | [], [] => rfl
  | [], _ :: _ => rfl
  | _ :: _, [] => rfl
  | b :: bs, c :: cs => by
    show (PyData.eqv (bxD b) (bxD c) && PyData.eqvAll (bs.map bxD) (cs.map bxD)) = _
    rw [eqv_bx, eqv_bxs bs cs, Bool.eq_iff_iff]
    simp
theorem lay_bxs : ∀ bs : List Bx, PyData.canLayAll0 (bs.map bxD) = true ∧ PyData.depthAll (bs.map bxD) ≤ 1
  | [] => ⟨rfl, Nat.zero_le _⟩
  | b :: bs => by
    obtain ⟨h1, h2⟩ := lay_bxs bs
    constructor
    · show ((bxD b).canLay0 && PyData.canLayAll0 (bs.map bxD)) = true
      rw [h1]
      rfl
    · show max (bxD b).depth (PyData.depthAll (bs.map bxD)) ≤ 1
      exact Nat.max_le.mpr ⟨Nat.le_refl 1, h2⟩
theorem shp_bxs (bs : List Bx) : SeqAt.shaped (.tuple (bs.map bxD)) = true := by
  obtain ⟨h1, h2⟩ := lay_bxs bs
  show (PyData.canLayAll0 (bs.map bxD) && decide (PyData.depthAll (bs.map bxD) + 1 ≤ 64)) = true
  rw [h1, decide_eq_true (by omega)]
  rfl
section
variable {P : Program} {w : World} {K : PySem.W.Frag} {mg : Str → Option Value} {base : Heap} {A : Ad}
theorem bV_dp {H : Hp} (b : Option Int) : Dp K H (bV b) (bD b) := by cases b <;> first | exact .non | exact .int _
theorem bV_of {H : Hp} {v : V} {b : Option Int} (h : Dp K H v (bD b)) : v = bV b := by
  cases b with
  | none => cases h; rfl
  | some n => cases h; rfl
theorem bV_eq (b c : Option Int) : decide (bV b = bV c) = decide (b = c) := by cases b <;> cases c <;> simp [bV]
theorem bV_sc (b c : Option Int) : scal (bV b) (bV c) = true := by cases b <;> cases c <;> rfl
def MyWay (K : PySem.W.Frag) (A : Ad) (H : Hp) (p : Addr) (b : Option Int) (l m : Int) (bs : List Bx) : Prop := WayAt K A H p (bV b) (.int l) (.int m) (bs.map bxD)
theorem MyWay.ext {H H' : Hp} {p : Addr} {b : Option Int} {l m : Int} {bs : List Bx} (h : MyWay K A H p b l m bs) (e : Ext H H') : MyWay K A H' p b l m bs := by
  obtain ⟨dx, T', xs, h1, h2, h3⟩ := h
  exact ⟨dx, T', xs, e _ _ h1, h2.ext e, dps_ext e _ _ h3⟩
def spWindow (K : PySem.W.Frag) (A : Ad) : Sp := fun vs H Q _ => ∃ p b l m bs, vs = [.ref p] ∧ MyWay K A H p b l m bs ∧ (b = none → Q .non H) ∧ ∀ n, b = some n → ∀ t H', Ext H H' → H' t = some (.tup [.int (n + 2 * l), .int (n + 2 * m)]) → Q (.ref t) H'
theorem ok_window {f : Addr} {fd : FuncData} (F : Fun K "window" "Way.window" s_Way_window f fd) (T : Txt K mg A) : FnOk P w K mg base CX0 1 f fd pm_Way_window (spWindow K A) := by
  refine F.ok sc_Way_window (fun vs H Q E h => ?_) (fun cdv A' outer s H vs Q E hr h => ?_)
  · obtain ⟨_, _, _, _, _, rfl, _⟩ := h
    rfl
  · obtain ⟨p, b, l, m, bs, rfl, ⟨dx, T', xs, hp, hT, ha⟩, q0, q1⟩ := h
    refine ⟨_, pss_cons (ps_if (pt_cmpR op_isN (pe_fld (pv 0) rfl) (pe_non) (nomark _)) (pss_one (ps_ret (pe_non))) (pss_nil))
      (pss_one (ps_ret (pe_tup (pa_cons (pe_op op_add (pe_fld (pv 0) rfl) (pe_op op_mul (pe_int) (pe_fld (pv 0) rfl))) (pa_cons (pe_op op_add (pe_fld (pv 0) rfl) (pe_op op_mul (pe_int) (pe_fld (pv 0) rfl))) pa_nil))))), ?_⟩
    refine ⟨_, rfl, p, A.Way, dx, _, _, rfl, hp, T.Way.cl, T.w_begin, rfl, rfl, _, rfl, ?_⟩
    cases b with
    | none => exact iteT (q0 rfl)
    | some n =>
      refine iteF ?_
      refine ⟨_, rfl, p, A.Way, dx, _, _, rfl, hp, T.Way.cl, T.w_begin, rfl, _, rfl, p, A.Way, dx, _, _, rfl, hp, T.Way.cl, T.w_least, rfl, _, _, rfl, rfl, .inl ⟨by decide, by decide⟩, _, _, rfl, rfl, ?_⟩
      refine ⟨_, rfl, p, A.Way, dx, _, _, rfl, hp, T.Way.cl, T.w_begin, rfl, _, rfl, p, A.Way, dx, _, _, rfl, hp, T.Way.cl, T.w_most, rfl, _, _, rfl, rfl, .inl ⟨by decide, by decide⟩, _, _, rfl, rfl, ?_⟩
      exact ⟨by show 2 ≤ sizeLine; decide, fun t ht => q1 n rfl t _ (Ext.upd ht) upd_same⟩
def spWayEq (K : PySem.W.Frag) (A : Ad) : Sp := fun vs H Q _ => ∃ p b l m bs v, vs = [.ref p, v] ∧ MyWay K A H p b l m bs ∧
  ((∃ q b' l' m' bs', v = .ref q ∧ MyWay K A H q b' l' m' bs' ∧ Q (.bl (decide (b = b' ∧ l = l' ∧ m = m' ∧ bs = bs'))) H) ∨ ∃ d, Dp K H v d ∧ Q (.bl false) H)
theorem ok_wayEq {f : Addr} {fd : FuncData} (F : Fun K "__eq__" "Way.__eq__" s_Way_eq f fd) (T : Txt K mg A) : FnOk P w K mg base CX0 1 f fd pm_Way_eq (spWayEq K A) := by
  refine F.ok sc_Way_eq (fun vs H Q E h => ?_) (fun cdv A' outer s H vs Q E hr h => ?_)
  · obtain ⟨_, _, _, _, _, _, rfl, _⟩ := h
    rfl
  · obtain ⟨p, b, l, m, bs, v, rfl, ⟨dx, T', xs, hp, hT, ha⟩, h⟩ := h
    refine ⟨_, pss_cons (ps_if (PW.pt (pw_or (pt_not (pt_val (pe_callB call_isi (by rfl) T.n_isinstance (by decide +kernel) (pa_cons (pv 1) (pa_cons (pe_gcls T.Way.gC) pa_nil))))) (pw_or1 (pt_cmpR op_ne (pe_fld (pv 0) rfl) (pe_fld (pv 1) rfl) (nomark _))))) (pss_one (ps_ret (pe_bl))) (pss_nil))
      (pss_one (ps_ret (pe_and (pe_cmpR op_eq (pe_fld (pv 0) rfl) (pe_fld (pv 1) rfl) (nomark _)) (pe_and (pe_cmpR op_eq (pe_fld (pv 0) rfl) (pe_fld (pv 1) rfl) (nomark _)) (pe_one (pe_cmpR (op_eqD hr.units) (pe_fld (pv 0) rfl) (pe_fld (pv 1) rfl) (nomark _))))))), ?_⟩
    rcases h with ⟨q, b', l', m', bs', rfl, ⟨dy, T2, ys, hq, hT2, ha2⟩, k⟩ | ⟨d, hd, h⟩
    · refine ⟨_, rfl, _, .ref A.Way, .ref A.Way, .ref A.Way, true, rfl, .own _, T.Way.tyOf hq, T.Way.me, _, rfl, ?_⟩
      refine iteF ?_
      refine ⟨_, rfl, p, A.Way, dx, _, _, rfl, hp, T.Way.cl, T.w_begin, rfl, _, rfl, q, A.Way, dy, _, _, rfl, hq, T.Way.cl, T.w_begin, rfl, bV_sc _ _, _, rfl, ?_⟩
      rw [bV_eq]
      by_cases h1 : b = b'
      · rw [decide_eq_true h1]
        refine iteF ?_
        refine ⟨_, rfl, p, A.Way, dx, _, _, rfl, hp, T.Way.cl, T.w_least, rfl, _, rfl, q, A.Way, dy, _, _, rfl, hq, T.Way.cl, T.w_least, rfl, rfl, _, rfl, ?_⟩
        rw [dvi]
        by_cases h2 : l = l'
        · rw [decide_eq_true h2]
          refine iteT ?_
          refine ⟨_, rfl, p, A.Way, dx, _, _, rfl, hp, T.Way.cl, T.w_most, rfl, _, rfl, q, A.Way, dy, _, _, rfl, hq, T.Way.cl, T.w_most, rfl, rfl, _, rfl, ?_⟩
          rw [dvi]
          by_cases h3 : m = m'
          · rw [decide_eq_true h3]
            refine iteT ?_
            refine ⟨_, rfl, p, A.Way, dx, _, _, rfl, hp, T.Way.cl, T.w_boxes, rfl, _, rfl, q, A.Way, dy, _, _, rfl, hq, T.Way.cl, T.w_boxes, rfl, ?_⟩
            refine ⟨_, _, .tup hT ha, .tup hT2 ha2, shp_bxs _, shp_bxs _, ?_⟩
            show Q (.bl (PyData.eqvAll (bs.map bxD) (bs'.map bxD))) H
            rw [eqv_bxs]
            have e : decide (b = b' ∧ l = l' ∧ m = m' ∧ bs = bs') = decide (bs = bs') := by simp [h1, h2, h3]
            rw [e] at k
            exact k
          · rw [decide_eq_false h3]
            rw [decide_eq_false (by simp [h3])] at k
            exact iteF k
        · rw [decide_eq_false h2]
          rw [decide_eq_false (by simp [h2])] at k
          exact iteF k
      · rw [decide_eq_false h1]
        rw [decide_eq_false (by simp [h1])] at k
        exact iteT k
    · refine ⟨_, rfl, _, .ref A.Way, .type (tnD d), .ref A.Way, false, rfl, .own _, dp_ty hd, T.Way.kitB (sub_ty_ref kd_find) rfl, _, rfl, ?_⟩
      exact iteT h
end
end K18

set_option Elab.async false
set_option maxRecDepth 100000
set_option maxHeartbeats 4000000
namespace K18
open PySem PySem.Spec PyProof.Rows L2
section
variable {P : Program} {w : World} {K : PySem.W.Frag} {mg : Str → Option Value} {base : Heap} {A : Ad}
theorem all_map {xs : List V} {f : V → Bool} : xs.map (fun x => V.bl (f x)) = (xs.map f).map V.bl := by
  rw [List.map_map]
  rfl
theorem all_id {xs : List V} {f : V → Bool} : (xs.map f).all id = xs.all f := by
  rw [List.all_map]
  rfl
def spCheckWays (K : PySem.W.Frag) (A : Ad) : Sp := fun vs H Q E => ∃ (v : V) (t : Value) (k : Bool) (xs : List V) (g : V → Bool), vs = [v] ∧ (∀ H', Ext H H' → TyX K H' v t) ∧ PySem.W.kitAny K t [.type "list", .type "tuple"] = some k ∧ (k = true → ∃ p, v = .ref p ∧ (SqL K H p xs ∨ SqT K H p xs)) ∧ xs.length ≤ 1000 ∧
  (∀ x ∈ xs, ∃ tx, (∀ H', Ext H H' → TyX K H' x tx) ∧ PySem.W.kitOne K tx (.ref A.Way) = some (g x)) ∧
  ((k && (decide ((1 : Int) ≤ (xs.length : Int)) && decide ((xs.length : Int) ≤ 4)) && xs.all g) = false → ∀ H', Ext H H' → ∀ e, H' e = none → E (.ref A.BadPart) (some e) (upd H' e (.xd [("part", .str "ways")]))) ∧
  ((k && (decide ((1 : Int) ≤ (xs.length : Int)) && decide ((xs.length : Int) ≤ 4)) && xs.all g) = true → ∀ H', Ext H H' → Q .non H')
theorem ok_checkWays {f : Addr} {fd : FuncData} (F : Fun K "check_ways" "check_ways" s_check_ways f fd) (T : Txt K mg A) (O_is_list_of : Own P w K mg base CX0 "is_list_of" 2 pm_is_list_of (spListOf K)) (X_BadPart : XCls P w K mg base "BadPart" "part" A.BadPart) : FnOk P w K mg base (L2.CX P w) 4 f fd pm_check_ways (spCheckWays K A) := by
  refine F.okX sc_check_ways (fun vs H Q E h => ?_) (fun cdv A' outer s H vs Q E hr h => ?_)
  · obtain ⟨_, _, _, _, _, rfl, _⟩ := h
    rfl
  · obtain ⟨v, t, k, xs, g, rfl, hv, hk, hp, hsm, hx, qE, qQ⟩ := h
    have hIsi : ∀ s1 H1 sc ce fp, CallR ((cxOf (L2.CX P w) P w K mg base nm_check_ways "check_ways" (defScope s_check_ways) f cdv A' outer s H E).blk s1 H1 sc ce fp) (.builtin "isinstance") (rIsi K) := fun s1 H1 sc ce fp =>
      call_isi (X := (cxOf (L2.CX P w) P w K mg base nm_check_ways "check_ways" (defScope s_check_ways) f cdv A' outer s H E).blk s1 H1 sc ce fp)
    refine ⟨_, pss_one (ps_if (PW.pt (pw_or (pt_not (pt_val (pe_own O_is_list_of (hr.mono (by decide)) pass0 (pa_cons (pv 0) (pa_cons (pe_int) (pa_cons (pe_gint T.g_MOST_WAYS) pa_nil)))))) (pw_or1 (pt_not (pt_val (pe_callB (cr_all rfl) (by rfl) T.n_all (by decide +kernel) (pa_cons (pe_lc (own := [("way", 1)]) (g := gName 1) (by rfl) sc_check_ways.nd (pi_sq (pv 0)) (blkOk_by (own := [("way", 1)]) (N := nm_check_ways) (sc := defScope s_check_ways) (by decide +kernel)) (fun _ _ _ _ _ => pg_name (i := 1) sc_check_ways.nd rfl (Or.inl rfl)) (fun s1 H1 C1 cl fp => pts_nil) (fun s1 H1 C1 cl fp => pe_callB (hIsi _ _ _ _ _) (by rfl) T.n_isinstance (by decide +kernel) (pa_cons (pv 1) (pa_cons (pe_gcls T.Way.gC) pa_nil)))) pa_nil))))))) (pss_one (ps_raise rfl (takes_of rfl rfl rfl rfl) (pmk_X X_BadPart (hr.mono (by decide)) (pe_str) rfl))) (pss_nil)), ?_⟩
    refine ⟨v, rfl, v, t, k, 1, 4, xs, rfl, hv, hk, hp, fun H1 e1 => ⟨_, rfl, ?_⟩⟩
    cases h1 : (k && (decide ((1 : Int) ≤ (xs.length : Int)) && decide ((xs.length : Int) ≤ 4))) with
    | false =>
      rw [h1] at qE
      exact iteT (mkX_fin fun e he => qE rfl _ e1 e he)
    | true =>
      rw [h1] at qE qQ
      refine iteF ?_
      have hkt : k = true := (Bool.and_eq_true_iff.mp h1).1
      obtain ⟨p, rfl, hseq⟩ := hp hkt
      refine ⟨_, rfl, p, rfl, lc_sqG (f := fun x => .bl (g x)) (b := fun _ => true) (hseq.imp (fun h => h.ext e1) (fun h => h.ext e1)) (small1000 hsm) (fun x => rfl) (fun x hm H' e' Q' q' => q' _ Ext.rfl') (fun x hm _ H' e' Q' q' => ?_) (fun D H2 hD e2 hl => ?_)⟩
      · obtain ⟨tx, t1, t2⟩ := hx x hm
        exact ⟨x, rfl, x, .ref A.Way, tx, .ref A.Way, g x, rfl, .own _, t1 _ (e1.trans e'), t2, q' _ Ext.rfl'⟩
      · rw [L2.filter_all, all_map] at hl
        refine ⟨D, xs.map g, rfl, SqL.of hl, _, rfl, ?_⟩
        rw [all_id]
        cases h2 : xs.all g with
        | false =>
          rw [h2] at qE
          exact iteT (mkX_fin fun e he => qE rfl _ (e1.trans e2) e he)
        | true =>
          rw [h2] at qQ
          exact iteF (qQ rfl _ (e1.trans e2))
def spCheckSilent (K : PySem.W.Frag) (A : Ad) : Sp := fun vs H Q E => ∃ (v : V) (d : PyData), vs = [v] ∧ Dp K H v d ∧ (betD d 0 3 = false → ∀ H', Ext H H' → ∀ e, H' e = none → E (.ref A.BadPart) (some e) (upd H' e (.xd [("part", .str "silent")]))) ∧ (betD d 0 3 = true → Q .non H)
theorem ok_checkSilent {f : Addr} {fd : FuncData} (F : Fun K "check_silent" "check_silent" s_check_silent f fd) (T : Txt K mg A) (O_is_between : Own P w K mg base CX0 "is_between" 2 pm_is_between (spBetween K)) (X_BadPart : XCls P w K mg base "BadPart" "part" A.BadPart) : FnOk P w K mg base (L2.CX P w) 4 f fd pm_check_silent (spCheckSilent K A) := by
  refine F.okX sc_check_silent (fun vs H Q E h => ?_) (fun cdv A' outer s H vs Q E hr h => ?_)
  · obtain ⟨_, _, rfl, _⟩ := h
    rfl
  · obtain ⟨v, d, rfl, hd, qE, qQ⟩ := h
    refine ⟨_, pss_one (ps_if (pt_not (pt_val (pe_own O_is_between (hr.mono (by decide)) pass0 (pa_cons (pv 0) (pa_cons (pe_int) (pa_cons (pe_gint T.g_MOST_SILENT) pa_nil)))))) (pss_one (ps_raise rfl (takes_of rfl rfl rfl rfl) (pmk_X X_BadPart (hr.mono (by decide)) (pe_str) rfl))) (pss_nil)), ?_⟩
    refine ⟨v, rfl, v, d, 0, 3, rfl, hd, _, rfl, ?_⟩
    cases h1 : betD d 0 3 with
    | false => exact iteT (mkX_fin fun e he => qE h1 _ Ext.rfl' e he)
    | true => exact iteF (qQ h1)
/-- a race at p: its ways' tuple and its silent -/
def rF (x z : V) : List (Str × V) := [("ways", x), ("silent", z)]
def spIndex (K : PySem.W.Frag) : Sp := fun vs H Q _ => ∃ v d n, vs = [v, .int n] ∧ Dp K H v d ∧ Q (.bl (betD d 0 (n - 1))) H
theorem ok_index {f : Addr} {fd : FuncData} (F : Fun K "is_index" "is_index" s_is_index f fd) (O_is_between : Own P w K mg base CX0 "is_between" 2 pm_is_between (spBetween K)) : FnOk P w K mg base CX0 3 f fd pm_is_index (spIndex K) := by
  refine F.ok sc_is_index (fun vs H Q E h => ?_) (fun cdv A' outer s H vs Q E hr h => ?_)
  · obtain ⟨_, _, _, rfl, _⟩ := h
    rfl
  · obtain ⟨v, d, n, rfl, hd, q⟩ := h
    refine ⟨_, pss_one (ps_ret (pe_own O_is_between (hr.mono (by decide)) pass0 (pa_cons (pv 0) (pa_cons (pe_int) (pa_cons (pe_op op_sub (pv 1) (pe_int)) pa_nil))))), ?_⟩
    exact ⟨v, rfl, _, rfl, _, _, rfl, rfl, v, d, 0, n - 1, rfl, hd, q⟩
/-! ### the constructor -/
def spRaceInit (K : PySem.W.Frag) (A : Ad) : Sp := fun vs H Q E => ∃ (p dx : Addr) (v z : V) (dz : PyData) (t : Value) (k : Bool) (xs : List V) (g : V → Bool), vs = [.ref p, v, z] ∧ H p = some (.ins A.Race dx []) ∧ Dp K H z dz ∧ (∀ H', Ext H H' → TyX K H' v t) ∧
  PySem.W.kitAny K t [.type "list", .type "tuple"] = some k ∧ (k = true → ∃ p, v = .ref p ∧ (SqL K H p xs ∨ SqT K H p xs)) ∧ xs.length ≤ 1000 ∧ (∀ x ∈ xs, ∃ tx, (∀ H', Ext H H' → TyX K H' x tx) ∧ PySem.W.kitOne K tx (.ref A.Way) = some (g x)) ∧
  ((k && (decide ((1 : Int) ≤ (xs.length : Int)) && decide ((xs.length : Int) ≤ 4)) && xs.all g) = false → ∀ H', Ext H H' → ∀ e, H' e = none → E (.ref A.BadPart) (some e) (upd H' e (.xd [("part", .str "ways")]))) ∧
  ((k && (decide ((1 : Int) ≤ (xs.length : Int)) && decide ((xs.length : Int) ≤ 4)) && xs.all g) = true → betD dz 0 3 = false → ∀ H', Ext H H' → ∀ e, H' e = none → E (.ref A.BadPart) (some e) (upd H' e (.xd [("part", .str "silent")]))) ∧
  ((k && (decide ((1 : Int) ≤ (xs.length : Int)) && decide ((xs.length : Int) ≤ 4)) && xs.all g) = true → betD dz 0 3 = true → ∀ H', (∃ T, H' p = some (.ins A.Race dx (rF (.ref T) z)) ∧ SqT K H' T xs) → (∀ x o, x ≠ p → H x = some o → H' x = some o) → Q .non H')
theorem ok_raceInit {f : Addr} {fd : FuncData} (F : Fun K "__init__" "Race.__init__" s_Race_init f fd) (T : Txt K mg A) (O_check_ways : Own P w K mg base (L2.CX P w) "check_ways" 4 pm_check_ways (spCheckWays K A)) (O_check_silent : Own P w K mg base (L2.CX P w) "check_silent" 4 pm_check_silent (spCheckSilent K A)) : FnOk P w K mg base (L2.CX P w) 6 f fd pm_Race_init (spRaceInit K A) := by
  refine F.okX sc_Race_init (fun vs H Q E h => ?_) (fun cdv A' outer s H vs Q E hr h => ?_)
  · obtain ⟨_, _, _, _, _, _, _, _, _, rfl, _⟩ := h
    rfl
  · obtain ⟨p, dx, v, z, dz, t, k, xs, g, rfl, hp, hz, hv, hk, hseq, hsm, hx, q1, q2, q3⟩ := h
    refine ⟨_, pss_cons (ps_expr (pe_ownS O_check_ways (hr.mono (by decide)) (takes_of rfl rfl rfl rfl) (pa_cons (pv 1) pa_nil)))
      (pss_cons (ps_expr (pe_ownS O_check_silent (hr.mono (by decide)) (takes_of rfl rfl rfl rfl) (pa_cons (pv 2) pa_nil)))
      (pss_cons (ps_fld (pv 0) (pe_callTy call_tuple_of (by rfl) T.n_tuple (by decide +kernel) (pa_cons (pv 1) pa_nil)) rfl)
      (pss_one (ps_fld (pv 0) (pv 2) rfl)))), ?_⟩
    refine ⟨_, rfl, v, t, k, xs, g, rfl, hv, hk, hseq, hsm, hx, q1, fun hok H1 e1 => ?_⟩
    refine ⟨_, rfl, z, dz, rfl, dp_ext e1 _ _ hz, fun hb H2 e2 e he => q2 hok hb _ (e1.trans e2) e he, fun hb => ?_⟩
    have hkt : k = true := (Bool.and_eq_true_iff.mp (Bool.and_eq_true_iff.mp hok).1).1
    obtain ⟨a, rfl, hs⟩ := hseq hkt
    have hp1 := e1 _ _ hp
    rcases hs with hs | hs
    · refine ⟨_, rfl, a, xs, rfl, .inl ⟨hs.ext e1, fun l hl => ⟨_, rfl, p, A.Race, dx, [], rfl, Ext.upd hl _ _ hp1, T.Race.cl, T.r_ways, (by show 0 < 1000; decide), ?_⟩⟩⟩
      have npl : p ≠ l := ne_of_none hp1 hl
      refine ⟨_, rfl, _, rfl, p, A.Race, dx, _, rfl, upd_same, T.Race.cl, T.r_silent, (by show 1 < 1000; decide), ?_⟩
      refine q3 hok hb _ ⟨l, upd_same, SqT.of (by rw [upd_ne npl.symm, upd_ne npl.symm]; exact upd_same)⟩ fun x o hxp ho => ?_
      rw [upd_ne hxp, upd_ne hxp]
      exact Ext.upd hl _ _ (e1 _ _ ho)
    · refine ⟨_, rfl, a, xs, rfl, .inr ⟨hs.ext e1, _, rfl, p, A.Race, dx, [], rfl, hp1, T.Race.cl, T.r_ways, (by show 0 < 1000; decide), ?_⟩⟩
      refine ⟨_, rfl, _, rfl, p, A.Race, dx, _, rfl, upd_same, T.Race.cl, T.r_silent, (by show 1 < 1000; decide), ?_⟩
      refine q3 hok hb _ ⟨a, upd_same, sqT_mut (H' := upd (upd H1 p _) p _) hp1 (fun x o hxp ho => by rw [upd_ne hxp, upd_ne hxp]; exact ho) (hs.ext e1)⟩ fun x o hxp ho => ?_
      rw [upd_ne hxp, upd_ne hxp]
      exact e1 _ _ ho
end
end K18

set_option Elab.async false
set_option maxRecDepth 100000
set_option maxHeartbeats 4000000
namespace K18
open PySem PySem.Spec PyProof.Rows L2
section
variable {P : Program} {w : World} {K : PySem.W.Frag} {mg : Str → Option Value} {base : Heap} {A : Ad}
def WayD (K : PySem.W.Frag) (A : Ad) (H : Hp) (p : Addr) (d : Wd) : Prop := MyWay K A H p d.1 d.2.1 d.2.2 []
def Rway (K : PySem.W.Frag) (A : Ad) : Addr → Addr → Hp → Bool → Prop := fun a b H k => ∃ d d', WayD K A H a d ∧ WayD K A H b d' ∧ k = decide (d = d')
theorem wd_ins {H : Hp} {a : Addr} {d : Wd} (h : WayD K A H a d) : ∃ dx fs, H a = some (.ins A.Way dx fs) := by
  obtain ⟨dx, T, xs, h1, _⟩ := h
  exact ⟨dx, _, h1⟩
theorem wd_uniq {H : Hp} {a : Addr} {d d' : Wd} (h : WayD K A H a d) (h' : WayD K A H a d') : d = d' := by
  obtain ⟨dx, T, xs, h1, _⟩ := h
  obtain ⟨dx', T', xs', h1', _⟩ := h'
  rw [h1] at h1'
  obtain ⟨b, l, m⟩ := d
  obtain ⟨b', l', m'⟩ := d'
  have e := Option.some.inj h1'
  injection e with _ _ e
  unfold wF at e
  injection e with e1 e
  injection e with e2 e
  injection e with e3 e
  injection e1 with _ e1
  injection e2 with _ e2
  injection e3 with _ e3
  injection e2 with e2
  injection e3 with e3
  have e1' : bV b = bV b' := e1
  have eb : b = b' := by
    cases b <;> cases b' <;> first | rfl | (cases e1'; done) | (injection e1' with q; rw [q])
  rw [eb, show l = l' from e2, show m = m' from e3]
abbrev DWay (K : PySem.W.Frag) (A : Ad) : EqvB := DInsB A.Way (Rway K A)
theorem mon_way : MonB (DWay K A) := fun x y H H' k e d => by
  obtain ⟨a, b, dx, dy, fs, gs, rfl, rfl, h1, h2, d1, d2, w1, w2, hk⟩ := d
  exact ⟨a, b, dx, dy, fs, gs, rfl, rfl, e _ _ h1, e _ _ h2, d1, d2, w1.ext e, w2.ext e, hk⟩
theorem way_imp {H : Hp} {Q : VK} {E : XK} {vs : List V} (h : spEqB (Rway K A) vs H Q E) : spWayEq K A vs H Q E := by
  obtain ⟨a, b, k, rfl, ⟨d, d', w1, w2, rfl⟩, q⟩ := h
  obtain ⟨b1, l1, m1⟩ := d
  obtain ⟨b2, l2, m2⟩ := d'
  refine ⟨a, b1, l1, m1, [], .ref b, rfl, w1, .inl ⟨b, b2, l2, m2, [], rfl, w2, ?_⟩⟩
  have z := q H Ext.rfl'
  rwa [show decide ((b1, l1, m1) = (b2, l2, m2)) = decide (b1 = b2 ∧ l1 = l2 ∧ m1 = m2 ∧ ([] : List Bx) = []) by simp] at z
theorem eqB_way {X : Cx} (O : OwnM X.prog X.w X.K X.mg X.base CX0 A.Way "__eq__" 1 pm_Way_eq (spWayEq X.K A)) : EqB X 1 (DWay X.K A) := by
  obtain ⟨f, fd, F, M, hi, hb⟩ := O.ex
  refine (rcB_ins (E := E0) (F.imp fun vs H Q E h => way_imp h) M.at_ hi hb pass0).eqB fun x y H k d => ?_
  obtain ⟨a, b, _, _, _, _, rfl, rfl, _, _, d1, d2, w1, w2, rfl⟩ := d
  refine ⟨a, b, rfl, rfl, fun e => ?_⟩
  subst e
  exact decide_eq_true (wd_uniq w1 w2)
/-- ways that stand in a tuple -/
def Ways (K : PySem.W.Frag) (A : Ad) (H : Hp) (ws : List V) (ds : List Wd) : Prop := ws.length = ds.length ∧ ∀ (i : Nat) (x : V) (d : Wd), ws[i]? = some x → ds[i]? = some d → ∃ q, x = .ref q ∧ WayD K A H q d
theorem Ways.ext {H H' : Hp} {ws : List V} {ds : List Wd} (h : Ways K A H ws ds) (e : Ext H H') : Ways K A H' ws ds := ⟨h.1, fun i x d h1 h2 => by
  obtain ⟨q, e1, w⟩ := h.2 i x d h1 h2
  exact ⟨q, e1, w.ext e⟩⟩
theorem zip_all : ∀ {ds ds' : List Wd}, ds.length = ds'.length → (List.zipWith (fun d d' => decide (d = d')) ds ds').all id = decide (ds = ds')
  | [], [], _ => rfl
  | [], _ :: _, h => nomatch h
  | _ :: _, [], h => nomatch h
  | d :: ds, d' :: ds', h => by
    rw [List.zipWith_cons_cons, List.all_cons, zip_all (Nat.succ.inj h), Bool.eq_iff_iff]
    simp
/-- two tuples of ways of one length compare as what they are told by -/
theorem tup_ways {H : Hp} {a b : Addr} {ws vs : List V} {ds es : List Wd} (ha : SqT K H a ws) (hb : SqT K H b vs) (hw : Ways K A H ws ds) (hv : Ways K A H vs es) (hl : ds.length = es.length) : DTupB K (DWay K A) (.ref a) (.ref b) H (decide (ds = es)) := by
  refine ⟨a, b, ws, vs, List.zipWith (fun d d' => decide (d = d')) ds es, rfl, rfl, ha, hb, by rw [hw.1, hv.1, hl], by rw [List.length_zipWith, hw.1, ← hl, Nat.min_self], fun i x y c h1 h2 h3 => ?_, (zip_all hl).symm⟩
  rw [List.getElem?_zipWith] at h3
  cases e1 : ds[i]? with
  | none => rw [e1] at h3; cases h3
  | some d =>
    cases e2 : es[i]? with
    | none => rw [e1, e2] at h3; cases h3
    | some d' =>
      rw [e1, e2] at h3
      cases h3
      obtain ⟨q, rfl, w1⟩ := hw.2 i x d h1 e1
      obtain ⟨r, rfl, w2⟩ := hv.2 i y d' h2 e2
      obtain ⟨dx, fs, i1⟩ := wd_ins w1
      obtain ⟨dy, gs, i2⟩ := wd_ins w2
      exact ⟨q, r, dx, dy, fs, gs, rfl, rfl, i1, i2, d, d', w1, w2, rfl⟩
def RaceD (K : PySem.W.Frag) (A : Ad) (H : Hp) (p : Addr) (ds : List Wd) (z : Int) : Prop := ∃ dx T ws, H p = some (.ins A.Race dx (rF (.ref T) (.int z))) ∧ SqT K H T ws ∧ Ways K A H ws ds
theorem RaceD.ext {H H' : Hp} {p : Addr} {ds : List Wd} {z : Int} (h : RaceD K A H p ds z) (e : Ext H H') : RaceD K A H' p ds z := by
  obtain ⟨dx, T, ws, h1, h2, h3⟩ := h
  exact ⟨dx, T, ws, e _ _ h1, h2.ext e, h3.ext e⟩
def spRaceEq (K : PySem.W.Frag) (A : Ad) : Sp := fun vs H Q _ => ∃ p ds z v, vs = [.ref p, v] ∧ RaceD K A H p ds z ∧
  ((∃ q es z', v = .ref q ∧ RaceD K A H q es z' ∧ ds.length = es.length ∧ ∀ H', Ext H H' → Q (.bl (decide (ds = es ∧ z = z'))) H') ∨ ∃ a ws, v = .ref a ∧ SqT K H a ws ∧ Q (.bl false) H)
theorem ok_raceEq {f : Addr} {fd : FuncData} (F : Fun K "__eq__" "Race.__eq__" s_Race_eq f fd) (T : Txt K mg A) (O_Way_eq : OwnM P w K mg base CX0 A.Way "__eq__" 1 pm_Way_eq (spWayEq K A)) : FnOk P w K mg base CX0 4 f fd pm_Race_eq (spRaceEq K A) := by
  refine F.ok sc_Race_eq (fun vs H Q E h => ?_) (fun cdv A' outer s H vs Q E hr h => ?_)
  · obtain ⟨_, _, _, _, rfl, _⟩ := h
    rfl
  · obtain ⟨p, ds, z, v, rfl, ⟨dx, T1, ws, hp, hT, hw⟩, h⟩ := h
    refine ⟨_, pss_one (ps_ret (pe_and (pe_callB call_isi (by rfl) T.n_isinstance (by decide +kernel) (pa_cons (pv 1) (pa_cons (pe_gcls T.Race.gC) pa_nil))) (pe_and (pe_cmpR (op_eqB (rcB_tup mon_way (eqB_way O_Way_eq)) (hr.mono (by decide))) (pe_fld (pv 0) rfl) (pe_fld (pv 1) rfl) (nomark _)) (pe_one (pe_cmpR op_eq (pe_fld (pv 0) rfl) (pe_fld (pv 1) rfl) (nomark _)))))), ?_⟩
    rcases h with ⟨q, es, z', rfl, ⟨dy, T2, us, hq, hT2, hv⟩, hl, k⟩ | ⟨a, us, rfl, ha, h⟩
    · refine ⟨_, rfl, _, .ref A.Race, .ref A.Race, .ref A.Race, true, rfl, .own _, T.Race.tyOf hq, T.Race.me, _, rfl, ?_⟩
      refine iteT ?_
      refine ⟨_, rfl, p, A.Race, dx, _, _, rfl, hp, T.Race.cl, T.r_ways, rfl, _, rfl, q, A.Race, dy, _, _, rfl, hq, T.Race.cl, T.r_ways, rfl, ?_⟩
      refine ⟨_, tup_ways hT hT2 hw hv hl, fun H1 e1 => ⟨_, rfl, ?_⟩⟩
      by_cases h1 : ds = es
      · rw [decide_eq_true h1]
        refine iteT ?_
        refine ⟨_, rfl, p, A.Race, dx, _, _, rfl, e1 _ _ hp, T.Race.cl, T.r_silent, rfl, _, rfl, q, A.Race, dy, _, _, rfl, e1 _ _ hq, T.Race.cl, T.r_silent, rfl, rfl, ?_⟩
        have kk := k H1 e1
        rw [show decide (ds = es ∧ z = z') = decide (V.int z = V.int z') by rw [dvi]; simp [h1]] at kk
        exact kk
      · rw [decide_eq_false h1]
        have kk := k H1 e1
        rw [decide_eq_false (fun h => h1 h.1)] at kk
        exact iteF kk
    · have kf : PySem.W.kitOne K (.type "tuple") (.ref A.Race) = some false := T.Race.kitB (sub_ty_ref (by decide +kernel)) rfl
      have ty : TyX K H (.ref a) (.type "tuple") := by
        rcases ha with (h | ⟨o, h⟩) | ⟨o, its, n, e, c, _⟩
        · exact .base (.tup h)
        · exact .fTuple h
        · exact .kTuple e c
      refine ⟨_, rfl, _, .ref A.Race, .type "tuple", .ref A.Race, false, rfl, .own _, ty, kf, _, rfl, ?_⟩
      exact iteF h
end
end K18

set_option Elab.async false
set_option maxRecDepth 100000
set_option maxHeartbeats 4000000
namespace K18
open PySem PySem.Spec PyProof.Rows L2
/-! ### the state that is drawn from: a list of the cells and a count -/
def StAt (H : Hp) (b s : Addr) (N : Nat) : Prop := ∃ (ns : List Int) (i : Int), H b = some (.lst [.ref s, .int i]) ∧ H s = some (.lst (ns.map V.int)) ∧ ns.length ≤ 63 ∧ 0 ≤ i ∧ i ≤ N
def ExtS (b s : Addr) (H H' : Hp) : Prop := ∀ x o, x ≠ b → x ≠ s → H x = some o → H' x = some o
theorem ExtS.rfl' {b s : Addr} {H : Hp} : ExtS b s H H := fun _ _ _ _ h => h
theorem ExtS.trans {b s : Addr} {H H1 H2 : Hp} (a : ExtS b s H H1) (c : ExtS b s H1 H2) : ExtS b s H H2 := fun x o h1 h2 e => c x o h1 h2 (a x o h1 h2 e)
theorem Ext.s {b s : Addr} {H H' : Hp} (h : Ext H H') : ExtS b s H H' := fun x o _ _ e => h x o e
theorem StAt.ext {b s : Addr} {H H' : Hp} {N : Nat} (h : StAt H b s N) (e : Ext H H') : StAt H' b s N := by
  obtain ⟨ns, i, hb, hs, h⟩ := h
  exact ⟨ns, i, e _ _ hb, e _ _ hs, h⟩
theorem StAt.le {b s : Addr} {H : Hp} {N M : Nat} (h : StAt H b s N) (e : N ≤ M) : StAt H b s M := by
  obtain ⟨ns, i, hb, hs, h1, h2, h3⟩ := h
  exact ⟨ns, i, hb, hs, h1, h2, by omega⟩
theorem StAt.new {b s l : Addr} {H : Hp} {N : Nat} (h : StAt H b s N) (hl : H l = none) : l ≠ b ∧ l ≠ s := by
  obtain ⟨ns, i, hb, hs, _⟩ := h
  exact ⟨(ne_of_none hb hl).symm, (ne_of_none hs hl).symm⟩
theorem StAt.upd {b s l : Addr} {H : Hp} {N : Nat} {o : HO} (h : StAt H b s N) (hb : l ≠ b) (hs : l ≠ s) : StAt (L2.upd H l o) b s N := by
  obtain ⟨ns, i, h1, h2, h⟩ := h
  exact ⟨ns, i, by rw [upd_ne hb.symm]; exact h1, by rw [upd_ne hs.symm]; exact h2, h⟩
theorem ExtS.mut {b s l : Addr} {H H' : Hp} {o : HO} (e : ExtS b s H H') (hl : H l = none) : ExtS b s H (L2.upd H' l o) := fun x u h1 h2 h => by
  rw [upd_ne (ne_of_none h hl)]
  exact e x u h1 h2 h
theorem ExtS.none {b s t : Addr} {H H' : Hp} (e : ExtS b s H H') (h1 : t ≠ b) (h2 : t ≠ s) (h : H' t = none) : H t = none := by
  cases z : H t with
  | none => rfl
  | some o =>
    rw [e t o h1 h2 z] at h
    cases h
section
variable {P : Program} {w : World} {K : PySem.W.Frag} {mg : Str → Option Value} {base : Heap} {A : Ad}
def spDraw : Sp := fun vs H Q _ => ∃ (b s : Addr) (N : Nat) (L : Int), vs = [.ref b, .int L] ∧ StAt H b s N ∧ N ≤ 1000000 ∧ 1 ≤ L ∧ L ≤ 100000 ∧
  ∀ n H', 0 ≤ n → n < L → StAt H' b s (N + 1) → ExtS b s H H' → Q (.int n) H'
theorem ok_draw {f : Addr} {fd : FuncData} (F : Fun K "_law_draw" "_law_draw" s__law_draw f fd) (T : Txt K mg A) : FnOk P w K mg base CX0 1 f fd pm__law_draw spDraw := by
  refine F.ok sc__law_draw (fun vs H Q E h => ?_) (fun cdv A' outer sh H vs Q E hr h => ?_)
  · obtain ⟨_, _, _, _, rfl, _⟩ := h
    rfl
  · obtain ⟨b, s, N, L, rfl, ⟨ns, i, hb, hs, n63, i0, iN⟩, hN, hL, hL2, k⟩ := h
    have nsb : s ≠ b := ne_of hs hb (by intro z; injection z with z; cases ns <;> simp at z)
    refine ⟨_, pss_cons (ps_set (i := 2) sc__law_draw.nd rfl (Or.inl rfl) (pe_ix ix_list (pv 0) (pe_int) (fun _ _ => rfl)))
      (pss_cons (ps_if (pt_not (pt_truth (pv 2) (by intro _; rfl))) (pss_one (ps_ret (pe_int))) (pss_nil))
      (pss_cons (ps_set (i := 3) sc__law_draw.nd rfl (Or.inl rfl) (pe_op op_modN (pe_callTy call_int1 (by rfl) T.n_int (by decide +kernel) (pa_cons (pe_ix ix_list (pv 0) (pe_int) (fun _ _ => rfl)) pa_nil)) (pe_callB call_len_seq (by rfl) T.n_len (by decide +kernel) (pa_cons (pv 2) pa_nil))))
      (pss_cons (ps_set (i := 4) sc__law_draw.nd rfl (Or.inl rfl) (pe_ix ix_list (pv 2) (pv 3) (fun _ _ => rfl)))
      (pss_cons (ps_asg (pe_op op_add (pe_ix ix_list (pv 0) (pe_int) (fun _ _ => rfl)) (pe_int)) (pg_sub (pv 0) (pe_int) set_list))
      (pss_cons (ps_if (pt_cmpR op_ge (pv 4) (pe_op op_pow (pe_int) (pe_int)) (nomark _)) (pss_cons (ps_asg (pe_op op_fdivN (pv 4) (pv 1)) (pg_sub (pv 2) (pv 3) set_list))
      (pss_one (ps_ret (pe_op op_modN (pe_callTy call_int1 (by rfl) T.n_int (by decide +kernel) (pa_cons (pv 4) pa_nil)) (pv 1))))) (pss_nil))
      (pss_cons (ps_set (i := 5) sc__law_draw.nd rfl (Or.inl rfl) (pe_op op_mod (pe_callTy call_int1 (by rfl) T.n_int (by decide +kernel) (pa_cons (pe_op op_add (pe_op op_add (pe_op op_mul (pv 4) (pe_int)) (pe_op op_mul (pe_ix ix_list (pv 0) (pe_int) (fun _ _ => rfl)) (pe_int))) (pe_int)) pa_nil)) (pe_int)))
      (pss_one (ps_ret (pe_op op_modN (pe_op op_mod (pe_callTy call_int1 (by rfl) T.n_int (by decide +kernel) (pa_cons (pe_op op_add (pe_op op_mul (pv 5) (pe_int)) (pe_op op_mul (pe_ix ix_list (pv 0) (pe_int) (fun _ _ => rfl)) (pe_int))) pa_nil)) (pe_int)) (pv 1)))))))))), ?_⟩
    refine ⟨_, rfl, b, _, 0, .ref s, rfl, rfl, SqL.of hb, rfl, ?_⟩
    refine ⟨_, rfl, _, .inl ⟨_, SqL.of hs, rfl⟩, ?_⟩
    by_cases hl0 : ns.length = 0
    · have hns := List.length_eq_zero_iff.mp hl0
      subst hns
      exact iteT (k 0 H (Int.le_refl _) (by omega) ⟨[], i, hb, hs, n63, i0, by omega⟩ ExtS.rfl')
    · have hne : (!(!(ns.map V.int).isEmpty)) = false := by
        cases ns with
        | nil => exact absurd rfl hl0
        | cons _ _ => rfl
      show if (!(!(ns.map V.int).isEmpty)) = true then _ else _
      rw [hne]
      refine iteF ?_
      have hlp : (0 : Int) < (ns.length : Int) := by omega
      obtain ⟨j, hj⟩ : ∃ j : Nat, i.fmod (ns.length : Int) = (j : Int) := ⟨(i.fmod (ns.length : Int)).toNat, (Int.toNat_of_nonneg (Int.fmod_nonneg_of_pos _ hlp)).symm⟩
      have hjl : j < ns.length := by
        have z := Int.fmod_lt_of_pos i hlp
        omega
      refine ⟨_, rfl, b, _, 1, .int i, rfl, rfl, SqL.of hb, rfl, .inl ⟨_, rfl, _, rfl, s, _, rfl, .inl (SqL.of hs), _, _, rfl, rfl, (by show ((ns.map V.int).length : Int) ≠ 0; rw [List.length_map]; omega), ?_⟩⟩
      have hj' : i.fmod ((ns.map V.int).length : Int) = (j : Int) := by rw [List.length_map]; exact hj
      have hjv : (ns.map V.int)[j]? = some (.int ns[j]) := by rw [List.getElem?_map, List.getElem?_eq_getElem hjl] <;> rfl
      refine ⟨_, rfl, _, rfl, s, _, _, .int ns[j], rfl, rfl, SqL.of hs, by rw [hj']; exact atI_nat hjv, ?_⟩
      generalize ns[j] = c
      refine ⟨_, rfl, b, _, 1, .int i, rfl, rfl, SqL.of hb, rfl, _, _, rfl, rfl, _, rfl, b, _, 1, 1, rfl, rfl, hb, rfl, ?_⟩
      have hb1 : upd H b (.lst ([V.ref s, .int i].set 1 (.int (i + 1)))) b = some (.lst [.ref s, .int (i + 1)]) := upd_same
      have hs1 : upd H b (.lst ([V.ref s, .int i].set 1 (.int (i + 1)))) s = some (.lst (ns.map V.int)) := by
        rw [upd_ne nsb]
        exact hs
      have x1 : ExtS b s H (upd H b (.lst ([V.ref s, .int i].set 1 (.int (i + 1))))) := fun x o h1 _ h => by
        rw [upd_ne h1]
        exact h
      generalize upd H b (.lst ([V.ref s, .int i].set 1 (.int (i + 1)))) = H1 at hb1 hs1 x1 ⊢
      refine ⟨_, rfl, _, _, rfl, rfl, ⟨by decide, by decide, by decide⟩, _, _, rfl, rfl, _, rfl, ?_⟩
      by_cases hc : c ≥ 10 ^ (18 : Int).toNat
      · rw [decide_eq_true hc]
        refine iteT ⟨_, rfl, _, rfl, _, _, rfl, rfl, ⟨by omega, by omega⟩, _, rfl, _, rfl, s, _, _, j, rfl, rfl, hs1, (by rw [hj']; exact Evl.ixN_nat (by rw [List.length_map]; exact hjl)), ?_⟩
        refine ⟨_, rfl, .inl ⟨_, rfl, _, rfl, _, _, rfl, rfl, (by show L ≠ 0; omega), ?_⟩⟩
        refine k _ _ (Int.fmod_nonneg_of_pos _ (by omega)) (Int.fmod_lt_of_pos _ (by omega)) ⟨ns.set j (c.fdiv L), i + 1, by rw [upd_ne nsb.symm]; exact hb1, ?_, by rw [List.length_set]; exact n63, by omega, by omega⟩ fun x o h1 h2 h => ?_
        · rw [upd_same, List.map_set]
        · rw [upd_ne h2]
          exact x1 x o h1 h2 h
      · rw [decide_eq_false hc]
        refine iteF ?_
        refine ⟨_, rfl, _, _, rfl, rfl, .inr ⟨by decide, by decide⟩, _, rfl, b, _, 1, .int (i + 1), rfl, rfl, SqL.of hb1, rfl, _, _, rfl, rfl, .inr ⟨by decide, by decide⟩, _, _, rfl, rfl, _, _, rfl, rfl, .inl ⟨_, rfl, _, _, rfl, rfl, (by show (0 : Int) < 2147483647; decide), ?_⟩⟩
        refine ⟨_, rfl, _, _, rfl, rfl, .inr ⟨by decide, by decide⟩, _, rfl, b, _, 1, .int (i + 1), rfl, rfl, SqL.of hb1, rfl, _, _, rfl, rfl, .inr ⟨by decide, by decide⟩, _, _, rfl, rfl, .inl ⟨_, rfl, _, _, rfl, rfl, (by show (0 : Int) < 2147483629; decide), _, rfl, _, _, rfl, rfl, (by show L ≠ 0; omega), ?_⟩⟩
        exact k _ _ (Int.fmod_nonneg_of_pos _ (by omega)) (Int.fmod_lt_of_pos _ (by omega)) ⟨ns, i + 1, hb1, hs1, n63, by omega, by omega⟩ x1
/-- the three numbers of a way, as they stand in a tuple -/
def w3 (d : Wd) : List V := [bV d.1, .int d.2.1, .int d.2.2]
def goodW (d : Wd) : Prop := (∀ n, d.1 = some n → 0 ≤ n ∧ n ≤ 4) ∧ 1 ≤ d.2.1 ∧ d.2.1 ≤ d.2.2 ∧ d.2.2 ≤ 10
/-- and their delays lie no more than one apart -/
def goodV (d : Wd) : Prop := goodW d ∧ d.2.2 ≤ d.2.1 + 1
def spWay : Sp := fun vs H Q _ => ∃ (b s : Addr) (N : Nat), vs = [.ref b] ∧ StAt H b s N ∧ N ≤ 900000 ∧ ∀ q d H', goodV d → H' q = some (.tup (w3 d)) → q ≠ b → q ≠ s → H q = none → StAt H' b s (N + 3) → ExtS b s H H' → Q (.ref q) H'
theorem ok_way {f : Addr} {fd : FuncData} (F : Fun K "_law_way" "_law_way" s__law_way f fd) (O__law_draw : Own P w K mg base CX0 "_law_draw" 1 pm__law_draw spDraw) : FnOk P w K mg base CX0 2 f fd pm__law_way spWay := by
  refine F.ok sc__law_way (fun vs H Q E h => ?_) (fun cdv A' outer sh H vs Q E hr h => ?_)
  · obtain ⟨_, _, _, rfl, _⟩ := h
    rfl
  · obtain ⟨b, s, N, rfl, hst, hN, k⟩ := h
    refine ⟨_, pss_cons (ps_set (i := 1) sc__law_way.nd rfl (Or.inl rfl) (pe_own O__law_draw (hr.mono (by decide)) pass0 (pa_cons (pv 0) (pa_cons (pe_int) pa_nil))))
      (Evl.pss_cut (ps_if (pt_cmpR op_eq (pv 1) (pe_int) (nomark _)) (pss_one (ps_set (i := 1) sc__law_way.nd rfl (Or.inl rfl) (pe_non))) (pss_nil))
      (pss_cons (ps_set (i := 2) sc__law_way.nd rfl (Or.inl rfl) (pe_op op_add (pe_int) (pe_own O__law_draw (hr.mono (by decide)) pass0 (pa_cons (pv 0) (pa_cons (pe_int) pa_nil)))))
      (pss_one (ps_ret (pe_tup (pa_cons (pv 1) (pa_cons (pv 2) (pa_cons (pe_op op_add (pv 2) (pe_own O__law_draw (hr.mono (by decide)) pass0 (pa_cons (pv 0) (pa_cons (pe_int) pa_nil)))) pa_nil)))))))), ?_⟩
    refine ⟨_, rfl, b, s, N, 6, rfl, hst, by omega, by omega, by omega, fun n H1 n0 n6 st1 x1 => ?_⟩
    refine ⟨fun σ H' => H' = H1 ∧ ∃ bo, σ = [some (.ref b), some (bV bo), Option.none] ∧ ∀ n, bo = some n → 0 ≤ n ∧ n ≤ 4, ?_, ?_⟩
    · refine ⟨_, rfl, rfl, _, rfl, ?_⟩
      rw [dvi]
      by_cases h5 : n = 5
      · rw [decide_eq_true h5]
        exact iteT ⟨rfl, none, rfl, fun n h => nomatch h⟩
      · rw [decide_eq_false h5]
        exact iteF ⟨rfl, some n, rfl, fun m h => by cases h; omega⟩
    · rintro σ H2 ⟨rfl, bo, rfl, hbo⟩
      refine ⟨_, rfl, b, s, N + 1, 3, rfl, st1, by omega, by omega, by omega, fun d2 H2 d20 d23 st2 x2 => ⟨_, _, rfl, rfl, ?_⟩⟩
      refine ⟨_, rfl, _, rfl, _, rfl, _, rfl, b, s, N + 2, 2, rfl, st2, by omega, by omega, by omega, fun d3 H3 d30 d32 st3 x3 => ⟨_, _, rfl, rfl, by show 3 ≤ sizeLine; decide, fun q hq => ?_⟩⟩
      obtain ⟨nb, ns⟩ := st3.new hq
      have x03 := (x1.trans x2).trans x3
      exact k q (bo, 1 + d2, 1 + d2 + d3) _ ⟨⟨hbo, by show 1 ≤ 1 + d2; omega, by show 1 + d2 ≤ 1 + d2 + d3; omega, by show 1 + d2 + d3 ≤ 10; omega⟩, by show 1 + d2 + d3 ≤ 1 + d2 + 1; omega⟩ upd_same nb ns (x03.none nb ns hq) (st3.ext (Ext.upd hq)) (x03.trans (Ext.s (Ext.upd hq)))
/-- tuples of such numbers -/
def Tups (b s : Addr) (H : Hp) (qs : List V) (ds : List Wd) : Prop := qs.length = ds.length ∧ ∀ (i : Nat) (x : V) (d : Wd), qs[i]? = some x → ds[i]? = some d → goodV d ∧ ∃ q, x = .ref q ∧ H q = some (.tup (w3 d)) ∧ q ≠ b ∧ q ≠ s
theorem Tups.to {b s : Addr} {H H' : Hp} {qs : List V} {ds : List Wd} (h : Tups b s H qs ds) (e : ExtS b s H H') : Tups b s H' qs ds := ⟨h.1, fun i x d h1 h2 => by
  obtain ⟨g, q, e1, e2, e3, e4⟩ := h.2 i x d h1 h2
  exact ⟨g, q, e1, e q _ e3 e4 e2, e3, e4⟩⟩
theorem Tups.snoc {b s q : Addr} {H : Hp} {qs : List V} {ds : List Wd} {d : Wd} (h : Tups b s H qs ds) (g : goodV d) (hq : H q = some (.tup (w3 d))) (nb : q ≠ b) (ns : q ≠ s) : Tups b s H (qs ++ [.ref q]) (ds ++ [d]) := by
  refine ⟨by rw [List.length_append, List.length_append, h.1]; rfl, fun i x e h1 h2 => ?_⟩
  by_cases hi : i < qs.length
  · rw [List.getElem?_append_left hi] at h1
    rw [List.getElem?_append_left (by rw [← h.1]; exact hi)] at h2
    exact h.2 i x e h1 h2
  · rw [List.getElem?_append_right (by omega)] at h1
    rw [List.getElem?_append_right (by rw [← h.1]; omega)] at h2
    have hj : ∀ j : Nat, ([V.ref q] : List V)[j]? = some x → x = .ref q := fun j h => by
      cases j with
      | zero => cases h; rfl
      | succ j => cases h
    have hk : ∀ j : Nat, ([d] : List Wd)[j]? = some e → e = d := fun j h => by
      cases j with
      | zero => cases h; rfl
      | succ j => cases h
    rw [hj _ h1, hk _ h2]
    exact ⟨g, q, rfl, hq, nb, ns⟩
def spWays : Sp := fun vs H Q _ => ∃ (b s : Addr) (N : Nat) (M : Int), vs = [.ref b, .int M] ∧ StAt H b s N ∧ N ≤ 800000 ∧ 1 ≤ M ∧ M ≤ 10 ∧
  ∀ D qs ds H', H' D = some (.lst qs) → D ≠ b → D ≠ s → Tups b s H' qs ds → 1 ≤ ds.length → (ds.length : Int) ≤ M → StAt H' b s (N + 40) → ExtS b s H H' → Q (.ref D) H'
theorem ok_ways {f : Addr} {fd : FuncData} (F : Fun K "_law_ways" "_law_ways" s__law_ways f fd) (T : Txt K mg A) (O__law_draw : Own P w K mg base CX0 "_law_draw" 1 pm__law_draw spDraw) (O__law_way : Own P w K mg base CX0 "_law_way" 2 pm__law_way spWay) : FnOk P w K mg base CX0 3 f fd pm__law_ways spWays := by
  refine F.ok sc__law_ways (fun vs H Q E h => ?_) (fun cdv A' outer sh H vs Q E hr h => ?_)
  · obtain ⟨_, _, _, _, rfl, _⟩ := h
    rfl
  · obtain ⟨b, s, N, M, rfl, hst, hN, hM, hM2, k⟩ := h
    refine ⟨_, pss_one (ps_ret (pe_lc (own := [("_law_k", 2)]) (g := gName 2) (by rfl) sc__law_ways.nd (pi_range1 rfl T.n_range (pa_cons (pe_op op_add (pe_int) (pe_own O__law_draw (hr.mono (by decide)) pass0 (pa_cons (pv 0) (pa_cons (pv 1) pa_nil)))) pa_nil)) (blkOk_by (own := [("_law_k", 2)]) (N := nm__law_ways) (sc := defScope s__law_ways) (by decide +kernel)) (fun _ _ _ _ _ => pg_name (i := 2) sc__law_ways.nd rfl (Or.inl rfl)) (fun s1 H1 C1 cl fp => pts_nil) (fun s1 H1 C1 cl fp => pe_own O__law_way (hr.mono (by decide)) pass0 (pa_cons (pv 0) pa_nil)))), ?_⟩
    refine ⟨_, rfl, _, rfl, b, s, N, M, rfl, hst, by omega, by omega, by omega, fun n H1 n0 nM st1 x1 => ⟨_, _, rfl, rfl, 1 + n, rfl, by omega, by omega, fun D hD => ?_⟩⟩
    obtain ⟨nb, ns⟩ := st1.new hD
    refine lc_range (fun i H' => ∃ qs ds, H' D = some (.lst qs) ∧ ds.length = i ∧ Tups b s H' qs ds ∧ StAt H' b s (N + 1 + 3 * i) ∧ ExtS b s H H') ⟨[], [], upd_same, rfl, ⟨rfl, fun i x d h => nomatch h⟩, st1.ext (Ext.upd hD), x1.trans (Ext.s (Ext.upd hD))⟩ (fun i H2 hi pv => ?_) (fun H2 pv => ?_)
    · obtain ⟨qs, ds, hl, hlen, ht, st, x2⟩ := pv
      refine ⟨rfl, _, rfl, b, s, _, rfl, st, by omega, fun q d H3 hg hq nqb nqs hqn st3 x3 => ⟨qs, x3 D _ nb ns hl, Nat.lt_trans (show qs.length < 20 by rw [ht.1, hlen]; omega) (by decide), qs ++ [.ref q], ds ++ [d], upd_same, by rw [List.length_append, hlen]; rfl, ?_, (st3.upd nb ns).le (by omega), (x2.trans x3).mut (x1.none nb ns hD)⟩⟩
      have nqD : q ≠ D := fun z => by rw [z, hl] at hqn; cases hqn
      refine Tups.snoc ?_ hg (by rw [upd_ne nqD]; exact hq) nqb nqs
      have t3 := ht.to x3
      refine ⟨t3.1, fun i x d h1 h2 => ?_⟩
      obtain ⟨g, r, e1, e2, e3, e4⟩ := t3.2 i x d h1 h2
      have nrD : r ≠ D := fun z => by
        have z1 := x3 D _ nb ns hl
        rw [z, z1] at e2
        cases e2
      exact ⟨g, r, e1, by rw [upd_ne nrD]; exact e2, e3, e4⟩
    · obtain ⟨qs, ds, hl, hlen, ht, st, x2⟩ := pv
      exact k D qs ds H2 hl nb ns ht (by omega) (by omega) (st.le (by omega)) x2
end
end K18

set_option Elab.async false
set_option maxRecDepth 100000
set_option maxHeartbeats 4000000
namespace K18
open PySem PySem.Spec PyProof.Rows L2
section
variable {P : Program} {w : World} {K : PySem.W.Frag} {mg : Str → Option Value} {base : Heap} {A : Ad}
/-- a way without boxes is made, by the default -/
theorem mk_way0 {H1 : Hp} {d : Wd} {R : VK} {E : XK} {x0 dx : Addr} (T : Txt K mg A) (hx0 : H1 x0 = none) (hdx : H1 dx = none) (hne : dx ≠ x0) (hb : bOk d.1) (hd : 1 ≤ d.2.1 ∧ d.2.1 ≤ d.2.2 ∧ d.2.2 ≤ 50)
    (q : ∀ H', Ext H1 H' → WayD K A H' x0 d → R .non H') : spWayInit K A (.ref x0 :: [bV d.1, .int d.2.1, .int d.2.2, .ref A.T0]) (upd (upd H1 dx (.own x0)) x0 (.ins A.Way dx [])) R E := by
  have e0 := (Ext.upd (o := .own x0) hdx).upd' (o := .ins A.Way dx []) (by rw [upd_ne hne.symm]; exact hx0)
  have due := due_ok (bs := []) (x := .tuple []) hb hd (.inr rfl) (Nat.zero_le _) (fun q h => nomatch h)
  refine ⟨x0, dx, bV d.1, .int d.2.1, .int d.2.2, .ref A.T0, bD d.1, .int d.2.1, .int d.2.2, .tuple [], rfl, upd_same, bV_dp _, .int _, .int _, .tup (T.t0 _) .nil, fun s hs => (by rw [due] at hs; cases hs), fun i hi => (by rw [due] at hi; cases hi), fun _ ds H' hds hw hB => ?_⟩
  cases hds
  obtain ⟨T2, ys, h1, h2, h3⟩ := hw
  exact q H' (fun a o h => hB a o (ne_of_none h hx0) (e0 a o h)) ⟨dx, T2, ys, h1, h2, h3⟩
theorem sqT_mutL {H H' : Hp} {D a : Addr} {ys xs : List V} (hD : H D = some (.lst ys)) (e : ∀ x o, x ≠ D → H x = some o → H' x = some o) (h : SqT K H a xs) : SqT K H' a xs := by
  rcases h with (h | ⟨o, h⟩) | h
  · exact .inl (.inl (e a _ (fun z => by rw [z, hD] at h; cases h) h))
  · exact .inl (.inr ⟨o, e a _ (fun z => by rw [z, hD] at h; cases h) h⟩)
  · exact .inr h
theorem wd_mut {H H' : Hp} {D p : Addr} {ys : List V} {d : Wd} (hD : H D = some (.lst ys)) (e : ∀ x o, x ≠ D → H x = some o → H' x = some o) (h : WayD K A H p d) : WayD K A H' p d := by
  obtain ⟨dx, T, xs, h1, h2, h3⟩ := h
  have h3' : DpAll K H xs [] := h3
  cases h3'
  exact ⟨dx, T, _, e _ _ (fun z => by rw [z, hD] at h1; cases h1) h1, sqT_mutL hD e h2, .nil⟩
theorem Ways.mut {H H' : Hp} {D : Addr} {ys ws : List V} {ds : List Wd} (hD : H D = some (.lst ys)) (e : ∀ x o, x ≠ D → H x = some o → H' x = some o) (h : Ways K A H ws ds) : Ways K A H' ws ds := ⟨h.1, fun i x d h1 h2 => by
  obtain ⟨q, e1, w⟩ := h.2 i x d h1 h2
  exact ⟨q, e1, wd_mut hD e w⟩⟩
theorem Ways.snoc {H : Hp} {ws : List V} {ds : List Wd} {q : Addr} {d : Wd} (h : Ways K A H ws ds) (w : WayD K A H q d) : Ways K A H (ws ++ [.ref q]) (ds ++ [d]) := by
  refine ⟨by rw [List.length_append, List.length_append, h.1]; rfl, fun i x e h1 h2 => ?_⟩
  by_cases hi : i < ws.length
  · rw [List.getElem?_append_left hi] at h1
    rw [List.getElem?_append_left (by rw [← h.1]; exact hi)] at h2
    exact h.2 i x e h1 h2
  · rw [List.getElem?_append_right (by omega)] at h1
    rw [List.getElem?_append_right (by rw [← h.1]; omega), ← h.1] at h2
    cases z : i - ws.length with
    | zero =>
      rw [z] at h1 h2
      cases h1
      cases h2
      exact ⟨q, rfl, w⟩
    | succ j =>
      rw [z] at h1
      cases h1
theorem good_b {d : Wd} (g : goodW d) : bOk d.1 := fun n h => by
  obtain ⟨a, b⟩ := g.1 n h
  omega
def spMade (K : PySem.W.Frag) (A : Ad) : Sp := fun vs H Q _ => ∃ (D b s : Addr) (qs : List V) (ds : List Wd), vs = [.ref D] ∧ H D = some (.lst qs) ∧ Tups b s H qs ds ∧ qs.length ≤ 1000 ∧ ∀ M ps H', Ext H H' → H M = none → H' M = some (.lst ps) → Ways K A H' ps ds → Q (.ref M) H'
theorem ok_made {f : Addr} {fd : FuncData} (F : Fun K "_law_made" "_law_made" s__law_made f fd) (T : Txt K mg A) (O_Way3 : OwnCD P w K mg base (L2.CX P w) "Way" A.Way 5 pm_Way_init (spWayInit K A) [.ref A.T0]) : FnOk P w K mg base CX0 8 f fd pm__law_made (spMade K A) := by
  refine F.ok sc__law_made (fun vs H Q E h => ?_) (fun cdv A' outer sh H vs Q E hr h => ?_)
  · obtain ⟨_, _, _, _, _, rfl, _⟩ := h
    rfl
  · obtain ⟨D, b, s, qs, ds, rfl, hD, ht, hsm, k⟩ := h
    have hIx : ∀ s1 H1 sc ce fp, IxR ((cxOf CX0 P w K mg base nm__law_made "_law_made" (defScope s__law_made) f cdv A' outer sh H E).nox.blk s1 H1 sc ce fp) (rIxT K) := fun s1 H1 sc ce fp => ix_tup (X := (cxOf CX0 P w K mg base nm__law_made "_law_made" (defScope s__law_made) f cdv A' outer sh H E).nox.blk s1 H1 sc ce fp)
    refine ⟨_, pss_one (ps_ret (pe_lc (own := [("_law_way_here", 1)]) (g := gName 1) (by rfl) sc__law_made.nd (pi_list (pv 0)) (blkOk_by (own := [("_law_way_here", 1)]) (N := nm__law_made) (sc := defScope s__law_made) (by decide +kernel)) (fun _ _ _ _ _ => pg_name (i := 1) sc__law_made.nd rfl (Or.inl rfl)) (fun _ _ _ _ _ => pts_nil)
      (fun s1 H1 C1 cl fp => pe_newD O_Way3 (hr.mono (by decide)) passL (pa_cons (pe_ix (hIx _ _ _ _ _) (pv 1) (pe_int) (fun _ _ => rfl)) (pa_cons (pe_ix (hIx _ _ _ _ _) (pv 1) (pe_int) (fun _ _ => rfl)) (pa_cons (pe_ix (hIx _ _ _ _ _) (pv 1) (pe_int) (fun _ _ => rfl)) pa_nil)))))), ?_⟩
    refine ⟨_, rfl, D, rfl, ⟨_, SqL.of hD⟩, fun M hM => ?_⟩
    refine lc_list (xs := qs) (fun i H' => Ext H H' ∧ ∃ ps, H' M = some (.lst ps) ∧ Ways K A H' ps (ds.take i)) ⟨Ext.upd hM, [], upd_same, ⟨rfl, fun i x d h => nomatch h⟩⟩ (fun i H' _ pv => SqL.of (pv.1 _ _ hD)) (fun i x H' hi pv => ?_) (fun H' pv => ?_)
    · obtain ⟨e1, ps, hps, hw⟩ := pv
      have hil : i < qs.length := (List.getElem?_eq_some_iff.mp hi).1
      obtain ⟨d, hd⟩ : ∃ d, ds[i]? = some d := ⟨_, List.getElem?_eq_getElem (by rw [← ht.1]; exact hil)⟩
      obtain ⟨⟨g, _⟩, q, rfl, hq, _, _⟩ := ht.2 i x d hi hd
      have hq1 := e1 _ _ hq
      refine ⟨rfl, _, rfl, q, _, 0, bV d.1, rfl, rfl, SqT.of hq1, rfl, _, rfl, q, _, 1, .int d.2.1, rfl, rfl, SqT.of hq1, rfl, _, rfl, q, _, 2, .int d.2.2, rfl, rfl, SqT.of hq1, rfl, fun x0 dn hx0 hdx0 hne0 => mk_way0 T hx0 hdx0 hne0 (good_b g) ⟨g.2.1, g.2.2.1, Int.le_trans g.2.2.2 (by decide)⟩ fun H2 e2 hw2 => ⟨rfl, ps, e2 _ _ hps, ?_, ?_⟩⟩
      · have z := hw.1
        rw [List.length_take] at z
        exact Nat.lt_of_le_of_lt (show ps.length ≤ 1000 by omega) (by decide)
      · have hM2 := e2 _ _ hps
        have mt : ∀ y o, y ≠ M → H2 y = some o → upd H2 M (.lst (ps ++ [.ref x0])) y = some o := fun y o hy h => by
          rw [upd_ne hy]
          exact h
        refine ⟨ext_mut (e1.trans e2) hM, ps ++ [.ref x0], upd_same, ?_⟩
        rw [take_snoc hd]
        exact Ways.snoc (Ways.mut hM2 mt (hw.ext e2)) (wd_mut hM2 mt hw2)
    · obtain ⟨e1, ps, hps, hw⟩ := pv
      rw [show qs.length = ds.length from ht.1, List.take_length] at hw
      exact k M ps H' e1 hM hps hw
end
end K18

set_option Elab.async false
set_option maxRecDepth 100000
set_option maxHeartbeats 4000000
namespace K18
open PySem PySem.Spec PyProof.Rows L2
section
variable {P : Program} {w : World} {K : PySem.W.Frag} {mg : Str → Option Value} {base : Heap} {A : Ad}
/-- what the constructor asks of its first argument -/
def Giv (K : PySem.W.Frag) (A : Ad) (H : Hp) (v : V) (t : Value) (k : Bool) (xs : List V) (g : V → Bool) : Prop := (∀ H', Ext H H' → TyX K H' v t) ∧ PySem.W.kitAny K t [.type "list", .type "tuple"] = some k ∧ (k = true → ∃ p, v = .ref p ∧ (SqL K H p xs ∨ SqT K H p xs)) ∧ xs.length ≤ 1000 ∧
  (∀ x ∈ xs, ∃ tx, (∀ H', Ext H H' → TyX K H' x tx) ∧ PySem.W.kitOne K tx (.ref A.Way) = some (g x))
theorem giv_lst {H : Hp} {a : Addr} {xs : List V} {g : V → Bool} (h : H a = some (.lst xs)) (hz : xs.length ≤ 1000) (hx : ∀ x ∈ xs, ∃ tx, (∀ H', Ext H H' → TyX K H' x tx) ∧ PySem.W.kitOne K tx (.ref A.Way) = some (g x)) : ∃ t, Giv K A H (.ref a) t true xs g := ⟨.type "list", fun H' e => .base (.lst (e _ _ h)), by
    have z := kd_seq (K := K) (d := .list [])
    exact z, fun _ => ⟨a, rfl, .inl (SqL.of h)⟩, hz, hx⟩
theorem ways_kit {H : Hp} {ps : List V} {ds : List Wd} (T : Txt K mg A) (h : Ways K A H ps ds) : ∀ x ∈ ps, ∃ q dx fs, x = .ref q ∧ H q = some (.ins A.Way dx fs) := fun x hx => by
  obtain ⟨i, hi⟩ := List.mem_iff_getElem?.mp hx
  have hl : i < ds.length := by rw [← h.1]; exact (List.getElem?_eq_some_iff.mp hi).1
  obtain ⟨q, e, w⟩ := h.2 i x _ hi (List.getElem?_eq_getElem hl)
  obtain ⟨dx, fs, e0⟩ := wd_ins w
  exact ⟨q, dx, fs, e, e0⟩
/-- a list of ways, with one place put otherwise or not -/
theorem ways_id {H : Hp} {ps : List V} {ds : List Wd} (T : Txt K mg A) (h : Ways K A H ps ds) : ∀ x ∈ ps, ∃ tx, (∀ H', Ext H H' → TyX K H' x tx) ∧ PySem.W.kitOne K tx (.ref A.Way) = some (decide (x ∈ ps)) := fun x hm => by
  obtain ⟨q, dx, fs, rfl, e0⟩ := ways_kit T h x hm
  rw [decide_eq_true hm]
  exact ⟨.ref A.Way, fun H' e => T.Way.tyOf (e _ _ e0), T.Way.me⟩
theorem all_mem {ps : List V} : (ps.all fun x => decide (x ∈ ps)) = true := by
  rw [List.all_eq_true]
  intro x hx
  exact decide_eq_true hx
theorem Giv.ext {H H' : Hp} {v : V} {t : Value} {k : Bool} {xs : List V} {g : V → Bool} (h : Giv K A H v t k xs g) (e : Ext H H') : Giv K A H' v t k xs g := by
  obtain ⟨h1, h2, h3, h4, h5⟩ := h
  refine ⟨fun H2 e2 => h1 H2 (e.trans e2), h2, fun z => ?_, h4, fun x hx => ?_⟩
  · obtain ⟨p, r, q⟩ := h3 z
    exact ⟨p, r, q.imp (fun h => h.ext e) (fun h => h.ext e)⟩
  · obtain ⟨tx, t1, t2⟩ := h5 x hx
    exact ⟨tx, fun H2 e2 => t1 H2 (e.trans e2), t2⟩
/-- a race is made of good parts -/
theorem mk_race {H1 : Hp} {p : Addr} {zi : Int} {xs : List V} {ds : List Wd} {R : VK} {E : XK} {x0 dx : Addr} (T : Txt K mg A) (hx0 : H1 x0 = none) (hdx : H1 dx = none) (hne : dx ≠ x0) (hv : H1 p = some (.lst xs) ∨ H1 p = some (.tup xs)) (hw : Ways K A H1 xs ds) (h1 : 1 ≤ ds.length) (h4 : ds.length ≤ 4) (hz : 0 ≤ zi ∧ zi ≤ 3)
    (q : ∀ H', Ext H1 H' → RaceD K A H' x0 ds zi → R .non H') : spRaceInit K A (.ref x0 :: [.ref p, .int zi]) (upd (upd H1 dx (.own x0)) x0 (.ins A.Race dx [])) R E := by
  have e0 := (Ext.upd (o := .own x0) hdx).upd' (o := .ins A.Race dx []) (by rw [upd_ne hne.symm]; exact hx0)
  have hl : xs.length = ds.length := hw.1
  have hg : ∃ t, Giv K A H1 (.ref p) t true xs (fun x => decide (x ∈ xs)) := by
    rcases hv with hv | hv
    · exact giv_lst hv (by omega) (ways_id T hw)
    · exact ⟨.type "tuple", fun H' e => .base (.tup (e _ _ hv)), (by
        have z := kd_seq (K := K) (d := .tuple [])
        exact z), fun _ => ⟨p, rfl, .inr (SqT.of hv)⟩, by omega, ways_id T hw⟩
  obtain ⟨t, hg⟩ := hg
  obtain ⟨g1, g2, g3, g4, g5⟩ := hg.ext e0
  have hok : (true && (decide ((1 : Int) ≤ (xs.length : Int)) && decide ((xs.length : Int) ≤ 4)) && (xs.all fun x => decide (x ∈ xs))) = true := by
    rw [all_mem, decide_eq_true (show (1 : Int) ≤ (xs.length : Int) by omega), decide_eq_true (show (xs.length : Int) ≤ 4 by omega)]
    rfl
  have hb : betD (.int zi) 0 3 = true := by
    rw [bet_int, decide_eq_true hz.1, decide_eq_true hz.2]
    rfl
  refine ⟨x0, dx, _, _, .int zi, t, true, xs, _, rfl, upd_same, .int _, g1, g2, g3, g4, g5, fun h => (by rw [hok] at h; cases h), fun _ h => (by rw [hb] at h; cases h), fun _ _ H' hT hB => ?_⟩
  have e1 : Ext H1 H' := fun a o h => hB a o (ne_of_none h hx0) (e0 a o h)
  obtain ⟨T1, r1, r2⟩ := hT
  exact q H' e1 ⟨dx, T1, xs, r1, r2, hw.ext e1⟩
/-- the places of the ways that have a begin, of the first i -/
def pl (ds : List Wd) (i : Nat) : List Int := List.map (fun j : Nat => (j : Int)) ((List.range i).filter (has ds))
theorem pl_succ (ds : List Wd) (i : Nat) : pl ds (i + 1) = pl ds i ++ (if has ds i = true then [(i : Int)] else []) := by
  unfold pl
  rw [List.range_succ, List.filter_append, List.map_append]
  cases h : has ds i <;> simp [h]
theorem pl_len (ds : List Wd) (i : Nat) : (pl ds i).length ≤ i := by
  unfold pl
  rw [List.length_map]
  exact Nat.le_trans (List.length_filter_le _ _) (by simp)
theorem has_at {ds : List Wd} {i : Nat} {d : Wd} (h : ds[i]? = some d) : has ds i = !decide (bV d.1 = .non) := by
  unfold has
  rw [h]
  cases hd : d.1 <;> simp [bV, hd]
def spPlanned (K : PySem.W.Frag) (A : Ad) : Sp := fun vs H Q _ => ∃ p ds z, vs = [.ref p] ∧ RaceD K A H p ds z ∧ ds.length ≤ 1000 ∧ ∀ t H', Ext H H' → H' t = some (.tup ((pl ds ds.length).map V.int)) → Q (.ref t) H'
theorem ok_planned {f : Addr} {fd : FuncData} (F : Fun K "planned" "Race.planned" s_Race_planned f fd) (T : Txt K mg A) : FnOk P w K mg base CX0 2 f fd pm_Race_planned (spPlanned K A) := by
  refine F.ok sc_Race_planned (fun vs H Q E h => ?_) (fun cdv A' outer sh H vs Q E hr h => ?_)
  · obtain ⟨_, _, _, rfl, _⟩ := h
    rfl
  · obtain ⟨p, ds, z, rfl, ⟨dx, T1, ws, hp, hT, hw⟩, hsm, k⟩ := h
    refine ⟨_, pss_one (ps_ret (pe_callTy call_tuple_of (by rfl) T.n_tuple (by decide +kernel) (pa_cons (pe_lc (own := [("way", 1), ("told", 2)]) (g := gTup K 2 (gCons (gName 1) (gCons (gName 2) gNil))) (tt := tTest (tOp rNotN (tFld K (tVar 2) "begin") (tC .non))) (by rfl) sc_Race_planned.nd (pi_enSq rfl T.n_enumerate (pa_cons (pe_fld (pv 0) rfl) pa_nil))
      (blkOk_by (own := [("way", 1), ("told", 2)]) (N := nm_Race_planned) (sc := defScope s_Race_planned) (by decide +kernel)) (fun _ _ _ _ _ => pg_tup rfl (pgs_cons (pg_name (i := 1) sc_Race_planned.nd rfl (Or.inl rfl)) (pgs_cons (pg_name (i := 2) sc_Race_planned.nd rfl (Or.inl rfl)) (pgs_nil))))
      (fun _ _ _ _ _ => pts_one (pt_cmpR op_notN1 (pe_fld (pv 2) rfl) (pe_non) (nomark _))) (fun _ _ _ _ _ => pv 1)) pa_nil))), ?_⟩
    refine ⟨_, rfl, p, A.Race, dx, _, _, rfl, hp, T.Race.cl, T.r_ways, rfl, T1, rfl, .inr ⟨⟨_, hT⟩, fun D hD => ?_⟩⟩
    refine lc_it (walk_enT (xs := ws)) (fun i H' => Ext H H' ∧ H' D = some (.lst ((pl ds i).map V.int))) ⟨Ext.upd hD, upd_same⟩ (fun i H' _ pv => hT.ext pv.1) (fun i x H' H2 hi pv hy => ?_) (fun H' pv => ?_)
    · obtain ⟨e1, hl⟩ := pv
      obtain ⟨t, y, v, rfl, ht, rfl, hy1, hy2⟩ := hy
      cases hy1
      obtain ⟨d, hd⟩ : ∃ d, ds[i]? = some d := ⟨_, List.getElem?_eq_getElem (by rw [← hw.1]; exact hi)⟩
      have e2 := e1.upd' (o := .tup [.int (i : Nat), v]) ht
      obtain ⟨q, rfl, dq, Tq, xq, hq, _⟩ := (hw.ext e2).2 i v d hy2 hd
      have hl2 := Ext.upd (o := .tup [.int (i : Nat), .ref q]) ht _ _ hl
      refine ⟨t, _, rfl, SqT.of upd_same, rfl, _, _, rfl, _, _, rfl, rfl, rfl, ?_⟩
      refine ⟨_, rfl, q, A.Way, dq, _, _, rfl, hq, T.Way.cl, T.w_begin, rfl, rfl, _, rfl, ?_⟩
      rw [← has_at hd]
      cases h : has ds i with
      | true =>
        refine iteT ⟨_, rfl, _, hl2, Nat.lt_of_le_of_lt (show ((pl ds i).map V.int).length ≤ 1000 by rw [List.length_map]; exact Nat.le_trans (pl_len ds i) (by have := hw.1; omega)) (by decide), ext_mut e2 hD, ?_⟩
        rw [upd_same, pl_succ, h, List.map_append]
        rfl
      | false =>
        refine iteF ⟨e2, ?_⟩
        rw [hl2, pl_succ, h]
        simp
    · obtain ⟨e1, hl⟩ := pv
      rw [hw.1] at hl
      exact ⟨D, _, rfl, .inl ⟨SqL.of hl, fun t ht => k t _ (e1.upd' ht) upd_same⟩⟩
end
end K18

set_option Elab.async false
set_option maxRecDepth 100000
set_option maxHeartbeats 4000000
namespace K18
open PySem PySem.Spec PyProof.Rows L2
/-- pairs of ints in tuples -/
def Prs (H : Hp) : List V → List (Int × Int) → Prop
  | [], [] => True
  | v :: vs, q :: qs => (∃ t, v = .ref t ∧ H t = some (.tup [.int q.1, .int q.2])) ∧ Prs H vs qs
  | _, _ => False
theorem Prs.to {H H' : Hp} (e : ∀ t xs, H t = some (.tup xs) → H' t = some (.tup xs)) : ∀ {vs : List V} {qs : List (Int × Int)}, Prs H vs qs → Prs H' vs qs
  | [], [], _ => trivial
  | [], _ :: _, h => h.elim
  | _ :: _, [], h => h.elim
  | _ :: _, _ :: _, ⟨⟨t, h1, h2⟩, h⟩ => ⟨⟨t, h1, e _ _ h2⟩, Prs.to e h⟩
theorem Prs.snoc {H : Hp} {t : Addr} {q : Int × Int} (ht : H t = some (.tup [.int q.1, .int q.2])) : ∀ {vs : List V} {qs : List (Int × Int)}, Prs H vs qs → Prs H (vs ++ [.ref t]) (qs ++ [q])
  | [], [], _ => ⟨⟨t, rfl, ht⟩, trivial⟩
  | [], _ :: _, h => h.elim
  | _ :: _, [], h => h.elim
  | _ :: _, _ :: _, ⟨a, h⟩ => ⟨a, Prs.snoc ht h⟩
theorem Prs.len {H : Hp} : ∀ {vs : List V} {qs : List (Int × Int)}, Prs H vs qs → vs.length = qs.length
  | [], [], _ => rfl
  | [], _ :: _, h => h.elim
  | _ :: _, [], h => h.elim
  | _ :: _, _ :: _, ⟨_, h⟩ => by rw [List.length_cons, List.length_cons, Prs.len h]
theorem Prs.get {H : Hp} : ∀ {vs : List V} {qs : List (Int × Int)} {i : Nat} {v : V}, Prs H vs qs → vs[i]? = some v → ∃ t q, qs[i]? = some q ∧ v = .ref t ∧ H t = some (.tup [.int q.1, .int q.2])
  | _ :: _, q :: _, 0, _, ⟨⟨t, h1, h2⟩, _⟩, hv => by
    cases hv
    exact ⟨t, q, rfl, h1, h2⟩
  | _ :: _, _ :: _, i + 1, _, ⟨_, h⟩, hv => Prs.get (i := i) h hv
  | [], [], _, _, _, hv => nomatch hv
  | [], _ :: _, _, _, h, _ => h.elim
  | _ :: _, [], _, _, h, _ => h.elim
theorem at_d {ds : List Wd} {j : Nat} {d : Wd} (h : ds[j]? = some d) : has ds j = d.1.isSome ∧ bg ds j = d.1.getD 0 ∧ ls ds j = d.2.1 ∧ ms ds j = d.2.2 := by
  unfold has bg ls ms
  rw [h]
  exact ⟨rfl, rfl, rfl, rfl⟩
def nI (j : Nat) : V := .int (j : Int)
theorem pl_plan {ds : List Wd} : (pl ds ds.length).map V.int = (plan ds).map nI := by
  unfold pl plan
  rw [List.map_map]
  rfl
theorem plan_has {ds : List Wd} {i j : Nat} (h : (plan ds)[i]? = some j) : has ds j = true ∧ j < ds.length := by
  obtain ⟨h1, h2⟩ := List.mem_filter.mp (List.mem_of_getElem? h)
  exact ⟨h2, List.mem_range.mp h1⟩
/-- other ways with their ends -/
def others (ds : List Wd) (w i : Nat) : List (Int × Int) := (((plan ds).take i).filter fun j => decide (j ≠ w)).map fun j : Nat => ((j : Int), fin ds j)
theorem others_snoc {ds : List Wd} {w i j : Nat} (h : (plan ds)[i]? = some j) : others ds w (i + 1) = others ds w i ++ (if decide (j ≠ w) = true then [((j : Int), fin ds j)] else []) := by
  unfold others
  rw [take_snoc h, List.filter_append, List.map_append]
  congr 1
  rw [List.filter_cons]
  by_cases e : j = w
  · simp [e]
  · simp [e]
theorem others_len {ds : List Wd} {w i : Nat} : (others ds w i).length ≤ ds.length := by
  unfold others
  rw [List.length_map]
  refine Nat.le_trans (List.length_filter_le _ _) ?_
  rw [List.length_take]
  unfold plan
  refine Nat.le_trans (Nat.min_le_right _ _) (Nat.le_trans (List.length_filter_le _ _) (by rw [List.length_range]; exact Nat.le_refl _))
theorem hurs_others {ds : List Wd} {w : Nat} {t : Int} : ((others ds w (plan ds).length).filter fun q => decide (q.2 < t) || (decide (q.2 = t) && decide (q.1 < (w : Int)))).map (fun q => V.int q.1) = (hurs ds w t).map nI := by
  unfold others hurs plan
  rw [List.take_length, List.filter_map, List.map_map, List.filter_filter, List.filter_filter]
  refine Eq.trans (congrArg _ ?_) (List.map_congr_left fun j _ => rfl)
  refine List.filter_congr fun j _ => ?_
  unfold early
  have e : decide ((j : Int) < (w : Int)) = decide (j < w) := by rw [Bool.eq_iff_iff]; simp
  show (((decide (fin ds j < t) || (decide (fin ds j = t) && decide ((j : Int) < (w : Int)))) && decide (j ≠ w)) && has ds j) = _
  rw [e]
  cases has ds j <;> cases decide (j ≠ w) <;> cases (decide (fin ds j < t) || (decide (fin ds j = t) && decide (j < w))) <;> rfl
theorem plan_len (ds : List Wd) : (plan ds).length ≤ ds.length := by
  unfold plan
  exact Nat.le_trans (List.length_filter_le _ _) (by rw [List.length_range]; exact Nat.le_refl _)
section
variable {P : Program} {w : World} {K : PySem.W.Frag} {mg : Str → Option Value} {base : Heap} {A : Ad}
/-- a call that is handed a way's place -/
def NoE (A : Ad) (E : XK) (H : Hp) (v : V) : Prop := ∀ e, H e = none → E (.ref A.NoWay) (some e) (upd H e (.xd [("way", v)]))
def spChk (K : PySem.W.Frag) (A : Ad) : Sp := fun vs H Q E => ∃ (p : Addr) (ds : List Wd) (z : Int) (v : V) (d : PyData), vs = [.ref p, v] ∧ RaceD K A H p ds z ∧ Dp K H v d ∧ (betD d 0 ((ds.length : Int) - 1) = false → NoE A E H v) ∧ (betD d 0 ((ds.length : Int) - 1) = true → Q .non H)
theorem ok_checkWay {f : Addr} {fd : FuncData} (F : Fun K "check_way" "check_way" s_check_way f fd) (T : Txt K mg A) (O_is_index : Own P w K mg base CX0 "is_index" 3 pm_is_index (spIndex K)) (X_NoWay : XCls P w K mg base "NoWay" "way" A.NoWay) : FnOk P w K mg base (L2.CX P w) 5 f fd pm_check_way (spChk K A) := by
  refine F.okX sc_check_way (fun vs H Q E h => ?_) (fun cdv A' outer s H vs Q E hr h => ?_)
  · obtain ⟨_, _, _, _, _, rfl, _⟩ := h
    rfl
  · obtain ⟨p, ds, z, v, d, rfl, ⟨dx, T', ws, hp, hT, hw⟩, hd, qE, qQ⟩ := h
    refine ⟨_, pss_one (ps_if (pt_not (pt_val (pe_own O_is_index (hr.mono (by decide)) pass0 (pa_cons (pv 1) (pa_cons (pe_callB call_len_seq (by rfl) T.n_len (by decide +kernel) (pa_cons (pe_fld (pv 0) rfl) pa_nil)) pa_nil))))) (pss_one (ps_raise rfl (takes_of rfl rfl rfl rfl) (pmk_X X_NoWay (hr.mono (by decide)) (pv 1) rfl))) (pss_nil)), ?_⟩
    refine ⟨_, rfl, _, rfl, p, A.Race, dx, _, _, rfl, hp, T.Race.cl, T.r_ways, rfl, T', ws, rfl, .inr hT, v, d, (ws.length : Int), rfl, hd, _, rfl, ?_⟩
    rw [hw.1]
    cases hb : betD d 0 ((ds.length : Int) - 1) with
    | false => exact iteT ⟨_, rfl, mkX_fin fun e he => qE hb e he⟩
    | true => exact iteF (qQ hb)
theorem int_w {H : Hp} {v : V} {d : PyData} {n : Nat} (hd : Dp K H v d) (h : betD d 0 ((n : Int) - 1) = true) : ∃ w : Nat, v = .int (w : Int) ∧ w < n := by
  obtain ⟨m, rfl, m0, m1⟩ := bet_yes h
  obtain rfl := dp_int hd
  exact ⟨m.toNat, by rw [Int.toNat_of_nonneg m0], by omega⟩
def spHur (K : PySem.W.Frag) (A : Ad) : Sp := fun vs H Q E => ∃ (p : Addr) (ds : List Wd) (z : Int) (v : V) (d : PyData) (t : Int), vs = [.ref p, v, .int t] ∧ RaceD K A H p ds z ∧ ds.length ≤ 1000 ∧ Dp K H v d ∧ (betD d 0 ((ds.length : Int) - 1) = false → NoE A E H v) ∧
  ∀ w : Nat, v = .int (w : Int) → w < ds.length → ∀ q H', Ext H H' → H' q = some (.tup ((hurs ds w t).map nI)) → Q (.ref q) H'
theorem ok_hurried {f : Addr} {fd : FuncData} (F : Fun K "hurried" "Race.hurried" s_Race_hurried f fd) (T : Txt K mg A) (O_check_way : Own P w K mg base (L2.CX P w) "check_way" 5 pm_check_way (spChk K A)) (O_Race_planned : OwnM P w K mg base CX0 A.Race "planned" 2 pm_Race_planned (spPlanned K A))
    (O_Way_window : OwnM P w K mg base CX0 A.Way "window" 1 pm_Way_window (spWindow K A)) : FnOk P w K mg base (L2.CX P w) 7 f fd pm_Race_hurried (spHur K A) := by
  refine F.okX sc_Race_hurried (fun vs H Q E h => ?_) (fun cdv A' outer s H vs Q E hr h => ?_)
  · obtain ⟨_, _, _, _, _, _, rfl, _⟩ := h
    rfl
  · obtain ⟨p, ds, z, v, d, t, rfl, hR, hsm, hd, qE, qQ⟩ := h
    refine ⟨_, pss_cons (ps_expr (pe_ownS O_check_way (hr.mono (by decide)) (takes_of rfl rfl rfl rfl) (pa_cons (pv 0) (pa_cons (pv 1) pa_nil))))
      (pss_cons (ps_setLc (i := 3) (own := [("other", 4)]) (g := gName 4) (by rfl) sc_Race_hurried.nd rfl rfl (sw_true rfl rfl rfl (by decide +kernel)) (pi_tup (pe_ownM0 O_Race_planned (pv 0) T.Race.cl (hr.mono (by decide)) pass0)) (blkOk_by (own := [("other", 4)]) (N := nm_Race_hurried) (sc := defScope s_Race_hurried) (by decide +kernel)) (fun _ _ _ _ _ => pg_name (i := 4) sc_Race_hurried.nd rfl (Or.inl rfl)) (fun s1 H1 C1 cl fp => pts_one (pt_cmpR op_ne (pv 4) (pv 1) (nomark _))) (fun s1 H1 C1 cl fp => pe_tup (pa_cons (pv 4) (pa_cons (pe_ix (ix_tupK (K := K) rfl) (pe_ownM0 O_Way_window (pe_ix (ix_tupK (K := K) rfl) (pe_fldK (K := K) rfl (pv 0) rfl) (pv 4) (fun _ _ => rfl)) T.Way.cl (hr.mono (by decide)) pass0) (pe_int) (fun _ _ => rfl)) pa_nil))))
      (pss_one (ps_ret (pe_callTy call_tuple_of (by rfl) T.n_tuple (by decide +kernel) (pa_cons (pe_lc (own := [("other", 4), ("end", 5)]) (g := gTup K 2 (gCons (gName 4) (gCons (gName 5) (gNil)))) (by rfl) sc_Race_hurried.nd (pi_list (pv 3)) (blkOk_by (own := [("other", 4), ("end", 5)]) (N := nm_Race_hurried) (sc := defScope s_Race_hurried) (by decide +kernel)) (fun _ _ _ _ _ => pg_tup rfl (pgs_cons (pg_name (i := 4) sc_Race_hurried.nd rfl (Or.inl rfl)) (pgs_cons (pg_name (i := 5) sc_Race_hurried.nd rfl (Or.inl rfl)) (pgs_nil)))) (fun s1 H1 C1 cl fp => pts_one (PW.pt (pw_or (pt_cmpR op_lt (pv 5) (pv 2) (nomark _)) (pw_or1 (PW.pt (pw_and (pt_cmpR op_eq (pv 5) (pv 2) (nomark _)) (pw_and1 (pt_cmpR op_lt (pv 4) (pv 1) (nomark _))))))))) (fun s1 H1 C1 cl fp => pv 4)) pa_nil))))), ?_⟩
    refine ⟨_, rfl, _, rfl, p, ds, z, v, d, rfl, hR, hd, qE, fun hb => ?_⟩
    obtain ⟨w, rfl, hw⟩ := int_w hd hb
    obtain ⟨dx, T1, ws, hp, hT, hws⟩ := id hR
    refine ⟨_, rfl, p, dx, _, rfl, hp, rfl, p, ds, z, rfl, hR, hsm, fun tp H1 e1 htp => ⟨tp, rfl, ⟨_, SqT.of htp⟩, fun D hD => ?_⟩⟩
    rw [pl_plan] at htp
    have hT1 := hT.ext e1
    have hw1 := hws.ext e1
    have hp1 := e1 _ _ hp
    refine lc_it (walk_tup (xs := (plan ds).map nI)) (fun i H' => Ext H1 H' ∧ ∃ acc, H' D = some (.lst acc) ∧ Prs H' acc (others ds w i)) ⟨Ext.upd hD, [], upd_same, trivial⟩ (fun i H' _ pv => SqT.of (pv.1 _ _ htp)) (fun i x H' H2 hi pv hy => ?_) (fun H' pv => ?_)
    · obtain ⟨e2, acc, hacc, hps⟩ := pv
      obtain ⟨rfl, hx⟩ := hy
      rw [List.getElem?_map] at hx
      cases hj : (plan ds)[i]? with
      | none => rw [hj] at hx; cases hx
      | some j =>
        rw [hj] at hx
        cases hx
        obtain ⟨hh, hjn⟩ := plan_has hj
        obtain ⟨dj, hdj⟩ : ∃ d, ds[j]? = some d := ⟨_, List.getElem?_eq_getElem hjn⟩
        obtain ⟨x, hx⟩ : ∃ x, ws[j]? = some x := ⟨_, List.getElem?_eq_getElem (by rw [hw1.1]; exact hjn)⟩
        obtain ⟨q, rfl, hq⟩ := (hw1.ext e2).2 j x dj hx hdj
        obtain ⟨a1, a2, a3, a4⟩ := at_d hdj
        rw [a1] at hh
        obtain ⟨b, hb'⟩ := Option.isSome_iff_exists.mp hh
        obtain ⟨dq, Tq, xq, hqi, _⟩ := id hq
        refine ⟨rfl, _, rfl, _, rfl, rfl, _, rfl, ?_⟩
        by_cases hjw : j = w
        · rw [show (!decide (nI j = V.int (w : Int))) = false by rw [hjw, show decide (nI w = V.int (w : Int)) = true from decide_eq_true rfl]; rfl]
          refine iteF ⟨e2, acc, hacc, ?_⟩
          rw [others_snoc hj, if_neg (by simp [hjw]), List.append_nil]
          exact hps
        · rw [show (!decide (nI j = V.int (w : Int))) = true by rw [decide_eq_false (fun z => hjw (by injection z with z; omega))]; rfl]
          refine iteT ⟨_, rfl, _, rfl, p, A.Race, dx, _, _, rfl, e2 _ _ hp1, T.Race.cl, T.r_ways, rfl, _, rfl, T1, ws, (j : Int), .ref q, rfl, rfl, hT1.ext e2, atI_nat hx, q, dq, _, rfl, hqi, rfl, q, dj.1, dj.2.1, dj.2.2, [], rfl, hq, (fun hn => by rw [hb'] at hn; cases hn), fun n hn tw H3 e3 htw => ⟨tw, _, 1, .int (n + 2 * dj.2.2), rfl, rfl, SqT.of htw, rfl, by show 2 ≤ sizeLine; decide, fun u hu => ?_⟩⟩
          have e4 := Ext.upd (o := .tup [nI j, .int (n + 2 * dj.2.2)]) hu
          have hfin : n + 2 * dj.2.2 = fin ds j := by
            unfold fin
            rw [a2, a4, hn]
            rfl
          have hacc' := e4 _ _ (e3 _ _ hacc)
          refine ⟨acc, hacc', Nat.lt_of_le_of_lt (show acc.length ≤ 1000 by rw [hps.len]; exact Nat.le_trans others_len hsm) (by decide), ext_mut ((e2.trans e3).trans e4) hD, acc ++ [.ref u], upd_same, ?_⟩
          rw [others_snoc hj, if_pos (by simp [hjw])]
          have kk : ∀ t xs, H1 t = H1 t → (upd H3 u (.tup [nI j, .int (n + 2 * dj.2.2)])) t = some (.tup xs) → (upd (upd H3 u (.tup [nI j, .int (n + 2 * dj.2.2)])) D (.lst (acc ++ [.ref u]))) t = some (.tup xs) := fun t xs _ ht => by
            rw [upd_ne (fun z => by rw [z, hacc'] at ht; cases ht)]
            exact ht
          refine Prs.snoc (kk _ _ rfl (by rw [← hfin]; exact upd_same)) (Prs.to (fun t xs ht => kk _ _ rfl (e4 _ _ (e3 _ _ ht))) hps)
    · obtain ⟨e2, acc, hacc, hps⟩ := pv
      rw [List.length_map] at hps
      refine ⟨_, rfl, D, rfl, ⟨_, SqL.of hacc⟩, fun C hC => ?_⟩
      refine lc_list (xs := acc) (fun i H2 => Ext H' H2 ∧ H2 C = some (.lst ((((others ds w (plan ds).length).take i).filter fun q => decide (q.2 < t) || (decide (q.2 = t) && decide (q.1 < (w : Int)))).map fun q => V.int q.1))) ⟨Ext.upd hC, upd_same⟩ (fun i H2 _ pv => SqL.of (pv.1 _ _ hacc)) (fun i x H2 hx pv => ?_) (fun H2 pv => ?_)
      · obtain ⟨e3, hC2⟩ := pv
        obtain ⟨u, q, hq, rfl, hu⟩ := hps.get hx
        have no : (decide (q.2 < t) || (decide (q.2 = t) && decide (q.1 < (w : Int)))) = false → Ext H' H2 ∧ H2 C = some (.lst ((((others ds w (plan ds).length).take (i + 1)).filter fun q => decide (q.2 < t) || (decide (q.2 = t) && decide (q.1 < (w : Int)))).map fun q => V.int q.1)) := fun h => by
          refine ⟨e3, ?_⟩
          rw [take_snoc hq, List.filter_append, List.map_append, List.filter_cons, if_neg (by rw [h]; decide)]
          rw [hC2]
          simp
        have yes : (decide (q.2 < t) || (decide (q.2 = t) && decide (q.1 < (w : Int)))) = true → ∃ acc, H2 C = some (.lst acc) ∧ acc.length < sizeLine ∧ (Ext H' (upd H2 C (.lst (acc ++ [V.int q.1]))) ∧ (upd H2 C (.lst (acc ++ [V.int q.1]))) C = some (.lst ((((others ds w (plan ds).length).take (i + 1)).filter fun q => decide (q.2 < t) || (decide (q.2 = t) && decide (q.1 < (w : Int)))).map fun q => V.int q.1))) := fun h => by
          refine ⟨_, hC2, Nat.lt_of_le_of_lt (show _ ≤ 1000 from ?_) (by decide), ext_mut e3 hC, ?_⟩
          · rw [List.length_map]
            refine Nat.le_trans (List.length_filter_le _ _) ?_
            rw [List.length_take]
            exact Nat.le_trans (Nat.min_le_right _ _) (Nat.le_trans others_len hsm)
          · rw [upd_same, take_snoc hq, List.filter_append, List.map_append, List.filter_cons, if_pos h]
            rfl
        refine ⟨u, _, rfl, SqT.of (e3 _ _ hu), rfl, _, _, rfl, _, _, rfl, rfl, rfl, ?_⟩
        refine ⟨_, rfl, _, rfl, _, _, rfl, rfl, _, rfl, ?_⟩
        cases h1 : decide (q.2 < t) with
        | true =>
          rw [h1] at yes
          exact iteT (iteT ⟨_, rfl, yes rfl⟩)
        | false =>
          rw [h1] at yes no
          refine iteF ⟨_, rfl, _, rfl, rfl, _, rfl, ?_⟩
          rw [dvi]
          cases h2 : decide (q.2 = t) with
          | false =>
            rw [h2] at no
            exact iteF (iteF (no rfl))
          | true =>
            rw [h2] at yes no
            refine iteT ⟨_, rfl, _, rfl, _, _, rfl, rfl, _, rfl, ?_⟩
            cases h3 : decide (q.1 < (w : Int)) with
            | true =>
              rw [h3] at yes
              exact iteT ⟨_, rfl, yes rfl⟩
            | false =>
              rw [h3] at no
              exact iteF (no rfl)
      · obtain ⟨e3, hC2⟩ := pv
        rw [List.take_of_length_le (by rw [hps.len]; exact Nat.le_refl _), hurs_others] at hC2
        exact ⟨C, _, rfl, .inl ⟨SqL.of hC2, fun tq htq => qQ w rfl hw tq _ ((e1.trans (e2.trans e3)).upd' htq) upd_same⟩⟩
end
end K18

set_option Elab.async false
set_option maxRecDepth 100000
set_option maxHeartbeats 4000000
namespace K18
open PySem PySem.Spec PyProof.Rows L2
theorem can_no {ds : List Wd} {z : Int} {w : Nat} {t : Int} (h : has ds w = false) : can ds z w t = false := by
  unfold can
  rw [h]
  rfl
theorem can_out {ds : List Wd} {z : Int} {w : Nat} {t : Int} (h : (decide (opn ds w ≤ t) && decide (t ≤ fin ds w)) = false) : can ds z w t = false := by
  unfold can
  rw [h, Bool.and_false]
  rfl
theorem can_in {ds : List Wd} {z : Int} {w : Nat} {t : Int} (h0 : has ds w = true) (h1 : decide (opn ds w ≤ t) = true) (h2 : decide (t ≤ fin ds w) = true) : can ds z w t = decide (((hurs ds w t).length : Int) ≤ z) := by
  unfold can
  rw [h0, h1, h2]
  rfl
section
variable {P : Program} {w : World} {K : PySem.W.Frag} {mg : Str → Option Value} {base : Heap} {A : Ad}
/-- a way at its place -/
theorem way_at {H : Hp} {p : Addr} {ds : List Wd} {z : Int} {w : Nat} (hR : RaceD K A H p ds z) (hw : w < ds.length) : ∃ dx T ws q dq fs d, H p = some (.ins A.Race dx (rF (.ref T) (.int z))) ∧ SqT K H T ws ∧ ws[w]? = some (.ref q) ∧ H q = some (.ins A.Way dq fs) ∧ WayD K A H q d ∧ ws.length = ds.length ∧ fs.lookup ("window" : Str) = none ∧
    has ds w = d.1.isSome ∧ (∀ n, d.1 = some n → n + 2 * d.2.1 = opn ds w ∧ n + 2 * d.2.2 = fin ds w) := by
  obtain ⟨dx, T1, ws, hp, hT, hws⟩ := hR
  obtain ⟨d, hd⟩ : ∃ d, ds[w]? = some d := ⟨_, List.getElem?_eq_getElem hw⟩
  obtain ⟨x, hx⟩ : ∃ x, ws[w]? = some x := ⟨_, List.getElem?_eq_getElem (by rw [hws.1]; exact hw)⟩
  obtain ⟨q, rfl, hq⟩ := hws.2 w x d hx hd
  obtain ⟨a1, a2, a3, a4⟩ := at_d hd
  obtain ⟨dq, Tq, xq, hqi, _⟩ := id hq
  refine ⟨dx, T1, ws, q, dq, _, d, hp, hT, hx, hqi, hq, hws.1, rfl, a1, fun n hn => ?_⟩
  unfold opn fin
  rw [a2, a3, a4, hn]
  exact ⟨rfl, rfl⟩
def spCan (K : PySem.W.Frag) (A : Ad) : Sp := fun vs H Q E => ∃ (p : Addr) (ds : List Wd) (z : Int) (v : V) (d : PyData) (t : Int), vs = [.ref p, v, .int t] ∧ RaceD K A H p ds z ∧ ds.length ≤ 1000 ∧ Dp K H v d ∧ (betD d 0 ((ds.length : Int) - 1) = false → NoE A E H v) ∧
  ∀ w : Nat, v = .int (w : Int) → w < ds.length → ∀ H', Ext H H' → Q (.bl (can ds z w t)) H'
theorem ok_canWin {f : Addr} {fd : FuncData} (F : Fun K "can_win" "Race.can_win" s_Race_can_win f fd) (T : Txt K mg A) (O_check_way : Own P w K mg base (L2.CX P w) "check_way" 5 pm_check_way (spChk K A)) (O_Race_hurried : OwnM P w K mg base (L2.CX P w) A.Race "hurried" 7 pm_Race_hurried (spHur K A))
    (O_Way_window : OwnM P w K mg base CX0 A.Way "window" 1 pm_Way_window (spWindow K A)) (O_is_integer : Own P w K mg base CX0 "is_integer" 1 pm_is_integer (spInteger K)) : FnOk P w K mg base (L2.CX P w) 8 f fd pm_Race_can_win (spCan K A) := by
  refine F.okX sc_Race_can_win (fun vs H Q E h => ?_) (fun cdv A' outer s H vs Q E hr h => ?_)
  · obtain ⟨_, _, _, _, _, _, rfl, _⟩ := h
    rfl
  · obtain ⟨p, ds, z, v, d, t, rfl, hR, hsm, hd, qE, qQ⟩ := h
    refine ⟨_, pss_cons (ps_expr (pe_ownS O_check_way (hr.mono (by decide)) (takes_of rfl rfl rfl rfl) (pa_cons (pv 0) (pa_cons (pv 1) pa_nil))))
      (pss_cons (ps_set (i := 3) sc_Race_can_win.nd rfl (Or.inl rfl) (pe_ownM0 O_Way_window (pe_ix ix_tup (pe_fld (pv 0) rfl) (pv 1) (fun _ _ => rfl)) T.Way.cl (hr.mono (by decide)) pass0))
      (pss_cons (ps_if (PW.pt (pw_or (pt_cmpR op_isN (pv 3) (pe_non) (nomark _)) (pw_or (pt_not (pt_val (pe_own O_is_integer (hr.mono (by decide)) pass0 (pa_cons (pv 2) pa_nil)))) (pw_or1 (pt_not (pt_chain op_le op_le (pe_ix ix_tup (pv 3) (pe_int) (fun _ _ => rfl)) (pv 2) (pe_ix ix_tup (pv 3) (pe_int) (fun _ _ => rfl)))))))) (pss_one (ps_ret (pe_bl))) (pss_nil))
      (pss_one (ps_ret (pe_cmpR op_le (pe_callB call_len_seq (by rfl) T.n_len (by decide +kernel) (pa_cons (pe_ownM O_Race_hurried (pv 0) T.Race.cl (hr.mono (by decide)) passL (pa_cons (pv 1) (pa_cons (pv 2) pa_nil))) pa_nil)) (pe_fld (pv 0) rfl) (nomark _)))))), ?_⟩
    refine ⟨_, rfl, _, rfl, p, ds, z, v, d, rfl, hR, hd, qE, fun hb => ?_⟩
    obtain ⟨w, rfl, hw⟩ := int_w hd hb
    have qq := qQ w rfl hw
    obtain ⟨dx, T1, ws, q, dq, fs, dw, hp, hT, hx, hqi, hq, hl, hlk, a1, a2⟩ := way_at hR hw
    refine ⟨_, rfl, p, A.Race, dx, _, _, rfl, hp, T.Race.cl, T.r_ways, rfl, _, rfl, T1, ws, (w : Int), .ref q, rfl, rfl, hT, atI_nat hx, q, dq, _, rfl, hqi, hlk, q, dw.1, dw.2.1, dw.2.2, [], rfl, hq, fun hn => ?_, fun n hn tw H1 e1 htw => ?_⟩
    · have h := qq H Ext.rfl'
      rw [can_no (by rw [a1, hn]; rfl)] at h
      exact ⟨_, rfl, rfl, _, rfl, iteT h⟩
    · obtain ⟨o1, o2⟩ := a2 n hn
      have hh : has ds w = true := by rw [a1, hn]; rfl
      refine ⟨_, rfl, rfl, _, rfl, iteF ⟨_, rfl, .int t, .int t, rfl, .int t, _, rfl, iteF ?_⟩⟩
      refine ⟨_, rfl, tw, _, 0, .int (n + 2 * dw.2.1), rfl, rfl, SqT.of htw, rfl, _, rfl, _, _, rfl, rfl, _, rfl, ?_⟩
      rw [o1]
      cases h1 : decide (opn ds w ≤ t) with
      | false =>
        refine iteF ⟨_, rfl, iteT ?_⟩
        have h := qq H1 e1
        rw [can_out (by rw [h1]; rfl)] at h
        exact h
      | true =>
        refine iteT ⟨_, rfl, tw, _, 1, .int (n + 2 * dw.2.2), rfl, rfl, SqT.of htw, rfl, _, _, rfl, rfl, _, rfl, ?_⟩
        rw [o2]
        cases h2 : decide (t ≤ fin ds w) with
        | false =>
          refine iteT ?_
          have h := qq H1 e1
          rw [can_out (by rw [h1, h2]; rfl)] at h
          exact h
        | true =>
          refine iteF ⟨_, rfl, p, dx, _, rfl, e1 _ _ hp, rfl, _, rfl, _, rfl, p, ds, z, _, d, t, rfl, hR.ext e1, hsm, dp_ext e1 _ _ hd, (fun h => by rw [hb] at h; cases h), fun w' hw' _ tq H2 e2 htq => ?_⟩
          obtain rfl : w = w' := by injection hw' with hw'; omega
          refine ⟨tq, _, rfl, .inr (SqT.of htq), _, rfl, p, A.Race, dx, _, _, rfl, e2 _ _ (e1 _ _ hp), T.Race.cl, T.r_silent, rfl, _, _, rfl, rfl, ?_⟩
          rw [List.length_map]
          have h := qq H2 (e1.trans e2)
          rw [can_in hh h1 h2] at h
          exact h
end
end K18

set_option Elab.async false
set_option maxRecDepth 100000
set_option maxHeartbeats 4000000
namespace K18
open PySem PySem.Spec PyProof.Rows L2
def moms (ds : List Wd) (z : Int) (w : Nat) : List Int := if has ds w = true then ((List.range (fin ds w + 1 - opn ds w).toNat).filter fun m : Nat => can ds z w (opn ds w + (m : Int))).map fun m : Nat => opn ds w + (m : Int) else []
def Gds (ds : List Wd) : Prop := ∀ (j : Nat) (d : Wd), ds[j]? = some d → goodW d
theorem gds_sm {ds : List Wd} {w : Nat} (g : Gds ds) (h : has ds w = true) : 2 ≤ opn ds w ∧ opn ds w ≤ fin ds w ∧ fin ds w ≤ 24 := by
  have hw := has_lt h
  obtain ⟨d, hd⟩ : ∃ d, ds[w]? = some d := ⟨_, List.getElem?_eq_getElem hw⟩
  obtain ⟨a1, a2, a3, a4⟩ := at_d hd
  obtain ⟨g1, g2, g3, g4⟩ := g w d hd
  rw [a1] at h
  obtain ⟨n, hn⟩ := Option.isSome_iff_exists.mp h
  obtain ⟨n0, n4⟩ := g1 n hn
  unfold opn fin
  rw [a2, a3, a4, hn]
  show 2 ≤ n + 2 * d.2.1 ∧ n + 2 * d.2.1 ≤ n + 2 * d.2.2 ∧ n + 2 * d.2.2 ≤ 24
  omega
theorem small_sz {n : Nat} (h : n ≤ 2000) : n < sizeLine := Nat.lt_of_le_of_lt h (by decide)
theorem last_at {α : Type} {xs : List α} {x : α} (h : xs.getLast? = some x) : atI xs (-1) = some x := by
  obtain ⟨ys, rfl⟩ := List.getLast?_eq_some_iff.mp h
  exact atI_last _ _
section
variable {P : Program} {w : World} {K : PySem.W.Frag} {mg : Str → Option Value} {base : Heap} {A : Ad}
end
end K18

set_option Elab.async false
set_option maxRecDepth 100000
set_option maxHeartbeats 4000000
namespace K18
open PySem PySem.Spec PyProof.Rows L2
theorem bet_in {j n : Nat} (h : j < n) : betD (.int (j : Int)) 0 ((n : Int) - 1) = true := by
  rw [bet_int, decide_eq_true (by omega), decide_eq_true (by omega)]
  rfl
def wins (ds : List Wd) (z : Int) : List Nat := (List.range ds.length).filter fun j => (moms ds z j).getLast?.isSome
section
variable {P : Program} {w : World} {K : PySem.W.Frag} {mg : Str → Option Value} {base : Heap} {A : Ad}
def spLatest (K : PySem.W.Frag) (A : Ad) : Sp := fun vs H Q E => ∃ (p : Addr) (ds : List Wd) (z : Int), vs = [.ref p] ∧ RaceD K A H p ds z ∧ ds.length ≤ 1000 ∧ 0 ≤ z ∧ ∀ (E : List Int) H', E.Perm (ends ds) → E.Pairwise (· ≤ ·) → Ext H H' → Q (bV E[z.toNat]?) H'
theorem ok_latest {f : Addr} {fd : FuncData} (F : Fun K "latest" "Race.latest" s_Race_latest f fd) (T : Txt K mg A) (O_Race_planned : OwnM P w K mg base CX0 A.Race "planned" 2 pm_Race_planned (spPlanned K A)) (O_Way_window : OwnM P w K mg base CX0 A.Way "window" 1 pm_Way_window (spWindow K A)) : FnOk P w K mg base CX0 3 f fd pm_Race_latest (spLatest K A) := by
  refine F.ok sc_Race_latest (fun vs H Q E h => ?_) (fun cdv A' outer s H vs Q E hr h => ?_)
  · obtain ⟨_, _, _, rfl, _⟩ := h
    rfl
  · obtain ⟨p, ds, z, rfl, hR, hsm, hz0, qQ⟩ := h
    refine ⟨_, pss_cons (ps_set (i := 1) sc_Race_latest.nd rfl (Or.inl rfl) (pe_callB cr_sortedI (by rfl) T.n_sorted (by decide +kernel) (pa_cons (pe_lc (own := [("way", 2)]) (g := gName 2) (by rfl) sc_Race_latest.nd (pi_tup (pe_ownM0 O_Race_planned (pv 0) T.Race.cl (hr.mono (by decide)) pass0)) (blkOk_by (own := [("way", 2)]) (N := nm_Race_latest) (sc := defScope s_Race_latest) (by decide +kernel)) (fun _ _ _ _ _ => pg_name (i := 2) sc_Race_latest.nd rfl (Or.inl rfl)) (fun s1 H1 C1 cl fp => pts_nil) (fun s1 H1 C1 cl fp => pe_callTy call_int1 (by rfl) T.n_int (by decide +kernel) (pa_cons (pe_ix (ix_tupK (K := K) rfl) (pe_ownM0 O_Way_window (pe_ix (ix_tupK (K := K) rfl) (pe_fldK (K := K) rfl (pv 0) rfl) (pv 2) (fun _ _ => rfl)) T.Way.cl (hr.mono (by decide)) pass0) (pe_int) (fun _ _ => rfl)) pa_nil))) pa_nil)))
      (pss_one (ps_ret (pe_ifExp (pt_cmpR op_gt (pe_callB call_len_seq (by rfl) T.n_len (by decide +kernel) (pa_cons (pv 1) pa_nil)) (pe_fld (pv 0) rfl) (nomark _)) (pe_ix ix_list (pv 1) (pe_fld (pv 0) rfl) (fun _ _ => rfl)) (pe_non)))), ?_⟩
    obtain ⟨dx, T1, ws, hp, hT, hws⟩ := id hR
    refine ⟨_, rfl, p, dx, _, rfl, hp, rfl, p, ds, z, rfl, hR, hsm, fun tp H1 e1 htp => ⟨tp, rfl, ⟨_, SqT.of htp⟩, fun D hD => ?_⟩⟩
    rw [pl_plan] at htp
    have hT1 := hT.ext e1
    have hR1 := hR.ext e1
    have hp1 := e1 _ _ hp
    refine lc_it (walk_tup (xs := (plan ds).map nI)) (fun i H' => Ext H1 H' ∧ H' D = some (.lst ((((plan ds).take i).map (fin ds)).map V.int))) ⟨Ext.upd hD, upd_same⟩ (fun i H' _ pv => SqT.of (pv.1 _ _ htp)) (fun i x H' H2 hi pv hy => ?_) (fun H' pv => ?_)
    · obtain ⟨e2, hD2⟩ := pv
      obtain ⟨rfl, hx⟩ := hy
      rw [List.getElem?_map] at hx
      cases hj : (plan ds)[i]? with
      | none => rw [hj] at hx; cases hx
      | some j =>
        rw [hj] at hx
        cases hx
        obtain ⟨hh, hjn⟩ := plan_has hj
        obtain ⟨dx', T1', ws', q, dq, fs, dj, hp', hT', hx', hqi, hq, hl, hlk, a1, a2⟩ := way_at (hR1.ext e2) hjn
        refine ⟨rfl, _, rfl, p, A.Race, dx', _, _, rfl, hp', T.Race.cl, T.r_ways, rfl, _, rfl, T1', ws', (j : Int), .ref q, rfl, rfl, hT', atI_nat hx', q, dq, _, rfl, hqi, hlk, q, dj.1, dj.2.1, dj.2.2, [], rfl, hq, (fun hn => by rw [a1, hn] at hh; cases hh), fun n hn tw H3 e3 htw => ⟨tw, _, 1, .int (n + 2 * dj.2.2), rfl, rfl, SqT.of htw, rfl, .inl ⟨_, rfl, ?_⟩⟩⟩
        refine ⟨_, e3 _ _ hD2, small_sz ?_, ext_mut (e2.trans e3) hD, ?_⟩
        · rw [List.length_map, List.length_map, List.length_take]
          have := plan_len ds
          omega
        · rw [upd_same, take_snoc hj, List.map_append, List.map_append, (a2 n hn).2]
          rfl
    · obtain ⟨e2, hD2⟩ := pv
      rw [List.length_map, List.take_length] at hD2
      refine ⟨D, ends ds, rfl, SqL.of hD2, fun E q hperm hsrt hq => ?_⟩
      have e3 := Ext.upd (o := .lst (E.map V.int)) hq
      have e13 := e1.trans (e2.trans e3)
      have h := qQ E _ hperm hsrt e13
      refine ⟨_, rfl, q, _, rfl, .inl (SqL.of upd_same), _, rfl, p, A.Race, dx, _, _, rfl, e13 _ _ hp, T.Race.cl, T.r_silent, rfl, _, _, rfl, rfl, _, rfl, ?_⟩
      rw [List.length_map]
      by_cases hlt : (E.length : Int) > z
      · rw [decide_eq_true hlt]
        have hlt' : z.toNat < E.length := by omega
        rw [List.getElem?_eq_getElem hlt'] at h
        refine iteT ⟨_, rfl, _, rfl, p, A.Race, dx, _, _, rfl, e13 _ _ hp, T.Race.cl, T.r_silent, rfl, q, _, z, .int E[z.toNat], rfl, rfl, SqL.of upd_same, ?_, h⟩
        have k := atI_nat (xs := E.map V.int) (j := z.toNat) (v := .int E[z.toNat]) (by rw [List.getElem?_map, List.getElem?_eq_getElem hlt']; rfl)
        rw [Int.toNat_of_nonneg hz0] at k
        exact k
      · rw [decide_eq_false hlt]
        rw [List.getElem?_eq_none (by omega)] at h
        exact iteF h
end
end K18

set_option Elab.async false
set_option maxRecDepth 100000
set_option maxHeartbeats 4000000
namespace K18
open PySem PySem.Spec PyProof.Rows L2
def Rel2 {α : Type} (R : V → α → Prop) : List V → List α → Prop
  | [], [] => True
  | v :: vs, q :: qs => R v q ∧ Rel2 R vs qs
  | _, _ => False
section
variable {α : Type} {R R' : V → α → Prop}
theorem Rel2.to (e : ∀ v a, R v a → R' v a) : ∀ {vs : List V} {qs : List α}, Rel2 R vs qs → Rel2 R' vs qs
  | [], [], _ => trivial
  | [], _ :: _, h => h.elim
  | _ :: _, [], h => h.elim
  | _ :: _, _ :: _, ⟨a, h⟩ => ⟨e _ _ a, Rel2.to e h⟩
theorem Rel2.cat : ∀ {vs us : List V} {qs rs : List α}, Rel2 R vs qs → Rel2 R us rs → Rel2 R (vs ++ us) (qs ++ rs)
  | [], _, [], _, _, h => h
  | [], _, _ :: _, _, h, _ => h.elim
  | _ :: _, _, [], _, h, _ => h.elim
  | _ :: _, _, _ :: _, _, ⟨a, h⟩, h' => ⟨a, Rel2.cat h h'⟩
theorem Rel2.one {v : V} {a : α} (h : R v a) : Rel2 R [v] [a] := ⟨h, trivial⟩
theorem Rel2.len : ∀ {vs : List V} {qs : List α}, Rel2 R vs qs → vs.length = qs.length
  | [], [], _ => rfl
  | [], _ :: _, h => h.elim
  | _ :: _, [], h => h.elim
  | _ :: _, _ :: _, ⟨_, h⟩ => by rw [List.length_cons, List.length_cons, Rel2.len h]
theorem Rel2.get : ∀ {vs : List V} {qs : List α} {i : Nat} {v : V}, Rel2 R vs qs → vs[i]? = some v → ∃ q, qs[i]? = some q ∧ R v q
  | _ :: _, q :: _, 0, _, ⟨a, _⟩, hv => by
    cases hv
    exact ⟨q, rfl, a⟩
  | _ :: _, _ :: _, i + 1, _, ⟨_, h⟩, hv => Rel2.get (i := i) h hv
  | [], [], _, _, _, hv => nomatch hv
  | [], _ :: _, _, _, h, _ => h.elim
  | _ :: _, [], _, _, h, _ => h.elim
theorem Rel2.got {vs : List V} {qs : List α} {i : Nat} {q : α} (h : Rel2 R vs qs) (hq : qs[i]? = some q) : ∃ v, vs[i]? = some v ∧ R v q := by
  have hi : i < vs.length := by
    rw [h.len]
    exact (List.getElem?_eq_some_iff.mp hq).1
  obtain ⟨v, hv⟩ : ∃ v, vs[i]? = some v := ⟨_, List.getElem?_eq_getElem hi⟩
  obtain ⟨q', h1, h2⟩ := h.get hv
  rw [hq] at h1
  cases h1
  exact ⟨v, hv, h2⟩
end
def EnAt (H : Hp) (v : V) : En → Prop
  | none => v = .non
  | some (a, b) => ∃ t, v = .ref t ∧ H t = some (.tup [.int a, .int b])
def RnAt (H : Hp) (v : V) (es : List En) : Prop := ∃ t vs, v = .ref t ∧ H t = some (.tup vs) ∧ Rel2 (EnAt H) vs es
def Wl (H : Hp) (D : Addr) (ds : List Wd) : Prop := ∃ qs, H D = some (.lst qs) ∧ Rel2 (fun v d => ∃ t, v = .ref t ∧ H t = some (.tup (w3 d))) qs ds
/-- tuples stay -/
def KT (H H' : Hp) : Prop := ∀ t xs, H t = some (.tup xs) → H' t = some (.tup xs)
theorem Ext.kt {H H' : Hp} (e : Ext H H') : KT H H' := fun t xs h => e _ _ h
theorem KT.trans {H H1 H2 : Hp} (a : KT H H1) (b : KT H1 H2) : KT H H2 := fun t xs h => b t xs (a t xs h)
theorem kt_set {H : Hp} {p : Addr} {xs ys : List V} (h : H p = some (.lst xs)) : KT H (upd H p (.lst ys)) := fun t zs ht => by
  rw [upd_ne (fun z => by rw [z, h] at ht; cases ht)]
  exact ht
theorem EnAt.k {H H' : Hp} (e : KT H H') : ∀ v a, EnAt H v a → EnAt H' v a
  | _, none, h => h
  | _, some (_, _), ⟨t, h1, h2⟩ => ⟨t, h1, e _ _ h2⟩
theorem RnAt.k {H H' : Hp} (e : KT H H') (v : V) (es : List En) (h : RnAt H v es) : RnAt H' v es := by
  obtain ⟨t, vs, h1, h2, h3⟩ := h
  exact ⟨t, vs, h1, e _ _ h2, h3.to (EnAt.k e)⟩
theorem Wl.ext {H H' : Hp} {D : Addr} {ds : List Wd} (h : Wl H D ds) (e : Ext H H') : Wl H' D ds := by
  obtain ⟨qs, h1, h2⟩ := h
  exact ⟨qs, e _ _ h1, h2.to fun v d ⟨t, a, b⟩ => ⟨t, a, e _ _ b⟩⟩
section
variable {P : Program} {w : World} {K : PySem.W.Frag} {mg : Str → Option Value} {base : Heap} {A : Ad}
def spEnts : Sp := fun vs H Q _ => ∃ (q : Addr) (d : Wd), vs = [.ref q] ∧ H q = some (.tup (w3 d)) ∧ goodW d ∧ ∀ L ys H', Ext H H' → H L = none → H' L = some (.lst ys) → Rel2 (EnAt H') ys (ents d) → Q (.ref L) H'
theorem ok_entries {f : Addr} {fd : FuncData} (F : Fun K "_law_entries" "_law_entries" s__law_entries f fd) (T : Txt K mg A) : FnOk P w K mg base CX0 1 f fd pm__law_entries spEnts := by
  refine F.ok sc__law_entries (fun vs H Q E h => ?_) (fun cdv A' outer s H vs Q E hr h => ?_)
  · obtain ⟨_, _, rfl, _⟩ := h
    rfl
  · obtain ⟨q, d, rfl, hq, hg, k⟩ := h
    refine ⟨_, pss_cons (ps_set (i := 1) sc__law_entries.nd rfl (Or.inl rfl) (pe_lst (pa_cons (pe_non) pa_nil)))
      (pss_cons (ps_if (pt_cmpR op_notN (pe_ix ix_tup (pv 0) (pe_int) (fun _ _ => rfl)) (pe_non) (nomark _)) (pss_one (ps_for PassesOwn.never rfl (pi_range2 rfl T.n_range (pa_cons (pe_ix ix_tup (pv 0) (pe_int) (fun _ _ => rfl)) (pa_cons (pe_op op_add (pe_ix ix_tup (pv 0) (pe_int) (fun _ _ => rfl)) (pe_int)) pa_nil))) (pg_name (i := 2) sc__law_entries.nd rfl (Or.inr rfl)) (pss_one (ps_set (i := 1) sc__law_entries.nd rfl (Or.inl rfl) (pe_op op_cat (pv 1) (pe_lc (own := [("_law_back", 3)]) (g := gName 3) (by rfl) sc__law_entries.nd (pi_range2 rfl T.n_range (pa_cons (pe_ix ix_tup (pv 0) (pe_int) (fun _ _ => rfl)) (pa_cons (pe_op op_add (pe_ix ix_tup (pv 0) (pe_int) (fun _ _ => rfl)) (pe_int)) pa_nil))) (blkOk_by (own := [("_law_back", 3)]) (N := nm__law_entries) (sc := defScope s__law_entries) (by decide +kernel)) (fun _ _ _ _ _ => pg_name (i := 3) sc__law_entries.nd rfl (Or.inl rfl)) (fun s1 H1 C1 cl fp => pts_nil) (fun s1 H1 C1 cl fp => pe_tup (pa_cons (pv 2) (pa_cons (pv 3) pa_nil))))))))) (pss_nil))
      (pss_one (ps_ret (pv 1)))), ?_⟩
    refine ⟨by show 1 ≤ sizeLine; decide, fun L0 hL0 => ?_⟩
    have e0 := Ext.upd (o := .lst [.non]) hL0
    have hq0 := e0 _ _ hq
    refine ⟨_, rfl, q, _, 0, bV d.1, rfl, rfl, SqT.of hq0, rfl, rfl, _, rfl, ?_⟩
    have hL : upd H L0 (.lst [.non]) L0 = some (.lst [.non]) := upd_same
    generalize upd H L0 (.lst [.non]) = H0 at e0 hq0 hL ⊢
    obtain ⟨b, l, m⟩ := d
    obtain ⟨g1, g2, g3, g4⟩ := hg
    have g2' : 1 ≤ l := g2
    have g3' : l ≤ m := g3
    have g4' : m ≤ 10 := g4
    cases b with
    | none => exact iteF ⟨_, rfl, k L0 [.non] H0 e0 hL0 hL ⟨rfl, trivial⟩⟩
    | some n =>
      refine iteT ?_
      refine ⟨_, rfl, q, _, 1, .int l, rfl, rfl, SqT.of hq0, rfl, _, rfl, q, _, 2, .int m, rfl, rfl, SqT.of hq0, rfl, _, _, rfl, rfl, l, m + 1, rfl, ⟨by omega, by omega, by omega, by omega⟩, ?_⟩
      refine for_range (n := (m + 1 - l).toNat) (fun i σ' H' => ∃ L ys o2, σ' = [some (.ref q), some (.ref L), o2, Option.none] ∧ Ext H H' ∧ H L = none ∧ H' L = some (.lst ys) ∧ Rel2 (EnAt H') ys (none :: pairs l m i)) ⟨L0, [.non], _, rfl, e0, hL0, hL, ⟨rfl, trivial⟩⟩ (fun i σ' H1 hi pv => ?_) (fun σ' H1 pv => ?_)
      · obtain ⟨L, ys, o2, rfl, e1, hL1, hl1, r1⟩ := pv
        have hq1 := e1 _ _ hq
        refine ⟨_, rfl, _, rfl, q, _, 1, .int l, rfl, rfl, SqT.of hq1, rfl, _, rfl, q, _, 2, .int m, rfl, rfl, SqT.of hq1, rfl, _, _, rfl, rfl, l, m + 1, rfl, ⟨by omega, by omega, by omega, by omega⟩, fun D hD => ?_⟩
        refine lc_range (n := (m + 1 - l).toNat) (fun j H' => Ext H1 H' ∧ ∃ acc, H' D = some (.lst acc) ∧ Rel2 (EnAt H') acc ((List.range j).map fun b : Nat => some (l + (i : Int), l + (b : Int)))) ⟨Ext.upd hD, [], upd_same, trivial⟩ (fun j H2 hj pv => ?_) (fun H2 pv => ?_)
        · obtain ⟨e2, acc, ha, ra⟩ := pv
          refine ⟨rfl, _, rfl, _, rfl, by show 2 ≤ sizeLine; decide, fun t ht => ?_⟩
          have e3 := Ext.upd (o := .tup [.int (l + (i : Int)), .int (l + (j : Int))]) ht
          have ha3 := e3 _ _ ha
          refine ⟨acc, ha3, small_sz ?_, ext_mut (e2.trans e3) hD, acc ++ [.ref t], upd_same, ?_⟩
          · rw [ra.len, List.length_map, List.length_range]
            omega
          · rw [List.range_succ, List.map_append]
            have kt := kt_set (ys := acc ++ [.ref t]) ha3
            exact Rel2.cat (ra.to (EnAt.k ((Ext.kt e3).trans kt))) (Rel2.one ⟨t, rfl, kt _ _ upd_same⟩)
        · obtain ⟨e2, acc, ha, ra⟩ := pv
          refine ⟨L, D, ys, acc, rfl, rfl, e2 _ _ hl1, ha, ?_, fun L2 hL2 => ?_⟩
          · rw [r1.len, ra.len, List.length_cons, pairs_len, List.length_map, List.length_range]
            have h10 : (m + 1 - l).toNat ≤ 10 := by omega
            have := Nat.mul_le_mul (show i ≤ 10 by omega) h10
            exact Nat.le_trans (show _ ≤ 1000 by omega) (by decide)
          · have e3 := Ext.upd (o := .lst (ys ++ acc)) hL2
            have e13 := (e1.trans e2).trans e3
            refine ⟨L2, ys ++ acc, _, rfl, e13, ext_none (e1.trans e2) hL2, upd_same, ?_⟩
            rw [pairs_succ]
            exact Rel2.cat (r1.to (EnAt.k ((Ext.kt e2).trans (Ext.kt e3)))) (ra.to (EnAt.k (Ext.kt e3)))
      · obtain ⟨L, ys, o2, rfl, e1, hL1, hl1, r1⟩ := pv
        exact ⟨_, rfl, k L ys H1 e1 hL1 hl1 r1⟩
end
end K18

set_option Elab.async false
set_option maxRecDepth 100000
set_option maxHeartbeats 4000000
namespace K18
open PySem PySem.Spec PyProof.Rows L2
theorem en_non {H : Hp} {v : V} {e : En} (h : EnAt H v e) : decide (v = .non) = e.isNone := by
  cases e with
  | none => rw [show v = .non from h]; rfl
  | some p =>
    obtain ⟨t, rfl, _⟩ := h
    rfl
theorem ent_at {es : List En} {i : Nat} {e : En} (h : es[i]? = some e) : ent es i = e := by
  unfold ent
  rw [h]
  rfl
section
variable {P : Program} {w : World} {K : PySem.W.Frag} {mg : Str → Option Value} {base : Heap} {A : Ad}
def spQuiet : Sp := fun vs H Q _ => ∃ (D : Addr) (ds : List Wd) (v : V) (es : List En), vs = [.ref D, v] ∧ Wl H D ds ∧ RnAt H v es ∧ es.length = ds.length ∧ ds.length ≤ 1000 ∧ ∀ H', Ext H H' → Q (.int (qn ds es : Nat)) H'
theorem ok_quiet {f : Addr} {fd : FuncData} (F : Fun K "_law_quiet" "_law_quiet" s__law_quiet f fd) (T : Txt K mg A) : FnOk P w K mg base CX0 1 f fd pm__law_quiet spQuiet := by
  refine F.ok sc__law_quiet (fun vs H Q E h => ?_) (fun cdv A' outer s H vs Q E hr h => ?_)
  · obtain ⟨_, _, _, _, rfl, _⟩ := h
    rfl
  · obtain ⟨D, ds, v, es, rfl, hW, hr', hl, hsm, k⟩ := h
    refine ⟨_, pss_one (ps_ret (pe_callB call_len_seq (by rfl) T.n_len (by decide +kernel) (pa_cons (pe_lc (own := [("_law_k", 2)]) (g := gName 2) (by rfl) sc__law_quiet.nd (pi_range1 rfl T.n_range (pa_cons (pe_callB call_len_seq (by rfl) T.n_len (by decide +kernel) (pa_cons (pv 0) pa_nil)) pa_nil)) (blkOk_by (own := [("_law_k", 2)]) (N := nm__law_quiet) (sc := defScope s__law_quiet) (by decide +kernel)) (fun _ _ _ _ _ => pg_name (i := 2) sc__law_quiet.nd rfl (Or.inl rfl)) (fun s1 H1 C1 cl fp => pts_one (PW.pt (pw_and (pt_cmpR op_notN (pe_ix (ix_tupK (K := K) rfl) (pe_ix (ix_listK (K := K) rfl) (pv 0) (pv 2) (fun _ _ => rfl)) (pe_int) (fun _ _ => rfl)) (pe_non) (nomark _)) (pw_and1 (pt_cmpR op_isN (pe_ix (ix_tupK (K := K) rfl) (pv 1) (pv 2) (fun _ _ => rfl)) (pe_non) (nomark _)))))) (fun s1 H1 C1 cl fp => pv 2)) pa_nil))), ?_⟩
    obtain ⟨qs, hD, rq⟩ := id hW
    refine ⟨_, rfl, D, qs, rfl, .inl (SqL.of hD), _, rfl, by omega, by rw [rq.len]; omega, ?_⟩
    rw [rq.len]
    refine lc_rgR (n := ds.length) (b := shut ds es) (f := nI) (small_sz (by omega)) (fun x => rfl) (fun m hm H' e' Q' q' => ?_) (fun m hm _ H' e' Q' q' => ⟨_, by rw [Int.zero_add]; rfl, q' _ Ext.rfl'⟩) (fun B H7 hB e7 hlB => ?_)
    · rw [Int.zero_add]
      obtain ⟨d, hd⟩ : ∃ d, ds[m]? = some d := ⟨_, List.getElem?_eq_getElem hm⟩
      obtain ⟨e, he⟩ : ∃ e, es[m]? = some e := ⟨_, List.getElem?_eq_getElem (by omega)⟩
      obtain ⟨x, hx, tq, rfl, ht⟩ := rq.got hd
      obtain ⟨tr, us, rfl, htr, rr⟩ := hr'
      obtain ⟨y, hy, hE⟩ := rr.got he
      have h := q' H' Ext.rfl'
      have hsh : shut ds es m = (d.1.isSome && e.isNone) := by
        unfold shut
        rw [(at_d hd).1, ent_at he]
      rw [hsh] at h
      refine ⟨_, rfl, _, rfl, D, qs, (m : Int), .ref tq, rfl, rfl, SqL.of (e' _ _ hD), atI_nat hx, tq, _, 0, bV d.1, rfl, rfl, SqT.of (e' _ _ ht), rfl, rfl, _, rfl, ?_⟩
      cases hb : d.1 with
      | none =>
        rw [hb] at h
        exact iteF h
      | some n =>
        rw [hb] at h
        refine iteT ⟨_, rfl, _, rfl, tr, us, (m : Int), y, rfl, rfl, SqT.of (e' _ _ htr), atI_nat hy, rfl, _, rfl, ?_⟩
        rw [en_non hE]
        exact h
    · refine ⟨B, _, rfl, .inl (SqL.of hlB), ?_⟩
      rw [List.length_map]
      exact k _ e7
theorem more_snoc {rs : List (List En)} {es : List En} {d : Wd} : more (rs ++ [es]) d = more rs d ++ (ents d).map fun e => es ++ [e] := by
  unfold more
  rw [List.flatMap_append]
  simp
theorem rns_succ {ds : List Wd} {i : Nat} {d : Wd} (h : ds[i]? = some d) : rns ds (i + 1) = more (rns ds i) d := by
  show (match ds[i]? with | some d => more (rns ds i) d | none => rns ds i) = _
  rw [h]
theorem rns_len {ds : List Wd} (g : Gds ds) : ∀ {i : Nat}, i ≤ 3 → (rns ds i).length ≤ 101 ^ i
  | 0, _ => by unfold rns; exact Nat.le_refl _
  | i + 1, hi => by
    have ih := rns_len g (i := i) (by omega)
    cases hd : ds[i]? with
    | none =>
      have : rns ds (i + 1) = rns ds i := by
        show (match ds[i]? with | some d => more (rns ds i) d | none => rns ds i) = _
        rw [hd]
      rw [this]
      exact Nat.le_trans ih (Nat.pow_le_pow_right (by decide) (Nat.le_succ i))
    | some d =>
      rw [rns_succ hd, more_len, Nat.pow_succ]
      refine Nat.mul_le_mul ih (ents_len ?_)
      obtain ⟨_, h2, _, h4⟩ := g i d hd
      omega
theorem big_sz {n : Nat} (h : n ≤ 101 ^ 3) : n < sizeLine := Nat.lt_of_le_of_lt h (by decide)
theorem rns_big {ds : List Wd} (g : Gds ds) {i : Nat} (hi : i ≤ 3) : (rns ds i).length ≤ 101 ^ 3 := Nat.le_trans (rns_len g hi) (Nat.pow_le_pow_right (by decide) hi)
theorem len_in {ds : List Wd} {i : Nat} {es : List En} (hi : i ≤ ds.length) (h : es ∈ rns ds i) : es.length = i := ((mem_rns hi).mp h).1
def spRuns : Sp := fun vs H Q _ => ∃ (D : Addr) (ds : List Wd) (z : Int), vs = [.ref D, .int z] ∧ Wl H D ds ∧ Gds ds ∧ ds.length ≤ 3 ∧ ∀ L ys H', Ext H H' → H L = none → H' L = some (.lst ys) → Rel2 (RnAt H') ys (lim z ds) → Q (.ref L) H'
theorem ok_runs {f : Addr} {fd : FuncData} (F : Fun K "_law_runs" "_law_runs" s__law_runs f fd) (T : Txt K mg A) (O__law_entries : Own P w K mg base CX0 "_law_entries" 1 pm__law_entries spEnts) (O__law_quiet : Own P w K mg base CX0 "_law_quiet" 1 pm__law_quiet spQuiet) : FnOk P w K mg base CX0 2 f fd pm__law_runs spRuns := by
  refine F.ok sc__law_runs (fun vs H Q E h => ?_) (fun cdv A' outer s H vs Q E hr h => ?_)
  · obtain ⟨_, _, _, rfl, _⟩ := h
    rfl
  · obtain ⟨D, ds, z, rfl, hW, hg, h3, k⟩ := h
    refine ⟨_, pss_cons (ps_set (i := 2) sc__law_runs.nd rfl (Or.inl rfl) (pe_lst (pa_cons (pe_tup (pa_nil)) pa_nil)))
      (pss_cons (ps_for PassesOwn.never rfl (pi_list (pv 0)) (pg_name (i := 3) sc__law_runs.nd rfl (Or.inl rfl)) (pss_cons (ps_set (i := 4) sc__law_runs.nd rfl (Or.inl rfl) (pe_lst (pa_nil)))
      (pss_cons (ps_for PassesOwn.never rfl (pi_list (pv 2)) (pg_name (i := 5) sc__law_runs.nd rfl (Or.inr rfl)) (pss_one (ps_set (i := 4) sc__law_runs.nd rfl (Or.inl rfl) (pe_op op_cat (pv 4) (pe_lc (own := [("_law_entry", 6)]) (g := gName 6) (by rfl) sc__law_runs.nd (pi_list (pe_own O__law_entries (hr.mono (by decide)) pass0 (pa_cons (pv 3) pa_nil))) (blkOk_by (own := [("_law_entry", 6)]) (N := nm__law_runs) (sc := defScope s__law_runs) (by decide +kernel)) (fun _ _ _ _ _ => pg_name (i := 6) sc__law_runs.nd rfl (Or.inl rfl)) (fun s1 H1 C1 cl fp => pts_nil) (fun s1 H1 C1 cl fp => pe_op op_catE (pv 5) (pe_tup (pa_cons (pv 6) pa_nil))))))))
      (pss_one (ps_set (i := 2) sc__law_runs.nd rfl (Or.inl rfl) (pv 4))))))
      (pss_one (ps_ret (pe_lc (own := [("_law_run_here", 5)]) (g := gName 5) (by rfl) sc__law_runs.nd (pi_list (pv 2)) (blkOk_by (own := [("_law_run_here", 5)]) (N := nm__law_runs) (sc := defScope s__law_runs) (by decide +kernel)) (fun _ _ _ _ _ => pg_name (i := 5) sc__law_runs.nd rfl (Or.inl rfl)) (fun s1 H1 C1 cl fp => pts_one (pt_cmpR op_le (pe_own O__law_quiet (hr.mono (by decide)) pass0 (pa_cons (pv 0) (pa_cons (pv 5) pa_nil))) (pv 1) (nomark _))) (fun s1 H1 C1 cl fp => pv 5))))), ?_⟩
    obtain ⟨qs, hD, rq⟩ := id hW
    refine ⟨by show 0 ≤ sizeLine; decide, fun t0 ht0 => ⟨by show 1 ≤ sizeLine; decide, fun L0 hL0 => ?_⟩⟩
    have e0 := (Ext.upd (o := .tup []) ht0).trans (Ext.upd (o := .lst [.ref t0]) hL0)
    have r0 : Rel2 (RnAt (upd (upd H t0 (.tup [])) L0 (.lst [.ref t0]))) [.ref t0] (rns ds 0) := ⟨⟨t0, [], rfl, Ext.upd hL0 _ _ upd_same, trivial⟩, trivial⟩
    have hl0 : upd (upd H t0 (.tup [])) L0 (.lst [.ref t0]) L0 = some (.lst [.ref t0]) := upd_same
    generalize upd (upd H t0 (.tup [])) L0 (.lst [.ref t0]) = H0 at e0 r0 hl0 ⊢
    refine ⟨_, rfl, D, rfl, ⟨_, SqL.of (e0 _ _ hD)⟩, ?_⟩
    refine for_list (xs := qs) (fun i σ' H' => ∃ L ys o3 o4 o5, σ' = [some (.ref D), some (.int z), some (.ref L), o3, o4, o5, Option.none] ∧ Ext H H' ∧ H' L = some (.lst ys) ∧ Rel2 (RnAt H') ys (rns ds i)) ⟨L0, _, _, _, _, rfl, e0, hl0, r0⟩ (fun i σ' H' _ pv => by obtain ⟨_, _, _, _, _, _, e, _⟩ := pv; exact SqL.of (e _ _ hD)) (fun i x σ' H1 hx pv => ?_) (fun σ' H1 pv => ?_)
    · obtain ⟨L, ys, o3, o4, o5, rfl, e1, hL, r1⟩ := pv
      obtain ⟨d, hd, q, rfl, hq⟩ := rq.get hx
      have hi : i < ds.length := (List.getElem?_eq_some_iff.mp hd).1
      have gd := hg i d hd
      refine ⟨by show 0 ≤ sizeLine; decide, fun M0 hM0 => ?_⟩
      have eM := Ext.upd (o := .lst []) hM0
      refine ⟨_, rfl, L, rfl, ⟨_, SqL.of (eM _ _ hL)⟩, ?_⟩
      refine for_list (xs := ys) (fun j σ' H' => ∃ M zs o5, σ' = [some (.ref D), some (.int z), some (.ref L), some (.ref q), some (.ref M), o5, Option.none] ∧ Ext H1 H' ∧ H' M = some (.lst zs) ∧ Rel2 (RnAt H') zs (more ((rns ds i).take j) d)) ⟨M0, [], _, rfl, eM, upd_same, trivial⟩ (fun j σ' H' _ pv => by obtain ⟨_, _, _, _, e, _⟩ := pv; exact SqL.of (e _ _ hL)) (fun j x σ' H2 hx pv => ?_) (fun σ' H2 pv => ?_)
      · obtain ⟨M, zs, o5', rfl, e2, hM, r2⟩ := pv
        obtain ⟨es, hes, hrn⟩ := r1.get hx
        have hq2 := e2 _ _ (e1 _ _ hq)
        refine ⟨_, rfl, _, rfl, q, d, rfl, hq2, gd, fun L1 us H3 e3 hL1 hl1 ru => ⟨L1, rfl, ⟨_, SqL.of hl1⟩, fun C hC => ?_⟩⟩
        obtain ⟨tr, vs, rfl, htr, rr⟩ := RnAt.k (Ext.kt (e2.trans e3)) _ _ hrn
        have lvs : vs.length = i := by rw [rr.len]; exact len_in (Nat.le_of_lt hi) (List.mem_of_getElem? hes)
        refine lc_list (xs := us) (fun m H' => Ext H3 H' ∧ ∃ acc, H' C = some (.lst acc) ∧ Rel2 (RnAt H') acc (((ents d).take m).map fun e => es ++ [e])) ⟨Ext.upd hC, [], upd_same, trivial⟩ (fun m H' _ pv => SqL.of (pv.1 _ _ hl1)) (fun m x H4 hx pv => ?_) (fun H4 pv => ?_)
        · obtain ⟨e4, acc, ha, ra⟩ := pv
          obtain ⟨en, hen, hE⟩ := ru.get hx
          refine ⟨rfl, _, rfl, _, rfl, by show 1 ≤ sizeLine; decide, fun t1 ht1 => ?_⟩
          have e5 := Ext.upd (o := .tup [x]) ht1
          refine ⟨tr, t1, vs, [x], rfl, rfl, e5 _ _ (e4 _ _ htr), upd_same, Nat.le_trans (show vs.length + 1 ≤ 1001 by omega) (by decide), fun p H6 e6 hp => ?_⟩
          have e46 := (e4.trans e5).trans e6
          have ha6 := e6 _ _ (e5 _ _ ha)
          have kt := kt_set (ys := acc ++ [.ref p]) ha6
          refine ⟨acc, ha6, small_sz ?_, ext_mut e46 hC, acc ++ [.ref p], upd_same, ?_⟩
          · rw [ra.len, List.length_map, List.length_take]
            have := ents_len (d := d) (by obtain ⟨_, _, _, g4⟩ := gd; omega)
            omega
          · rw [take_snoc hen, List.map_append]
            refine Rel2.cat (ra.to (RnAt.k ((Ext.kt (e5.trans e6)).trans kt))) (Rel2.one ⟨p, vs ++ [x], rfl, kt _ _ hp, Rel2.cat (rr.to (EnAt.k ((Ext.kt e46).trans kt))) (Rel2.one (EnAt.k ((Ext.kt e46).trans kt) _ _ hE))⟩)
        · obtain ⟨e4, acc, ha, ra⟩ := pv
          rw [List.take_of_length_le (by rw [ru.len]; exact Nat.le_refl _)] at ra
          have e24 := e3.trans e4
          refine ⟨M, C, zs, acc, rfl, rfl, e24 _ _ hM, ha, ?_, fun M2 hM2 => ?_⟩
          · rw [r2.len, ra.len, more_len, List.length_map, List.length_take]
            have h1 : (rns ds i).length ≤ 101 ^ 2 := Nat.le_trans (rns_len hg (by omega)) (Nat.pow_le_pow_right (by decide) (by omega))
            have h2 := ents_len (d := d) (by obtain ⟨_, _, _, g4⟩ := gd; omega)
            exact Nat.le_trans (Nat.add_le_add (Nat.mul_le_mul (Nat.le_trans (Nat.min_le_right j (rns ds i).length) h1) h2) h2) (by decide)
          · have e5 := Ext.upd (o := .lst (zs ++ acc)) hM2
            refine ⟨M2, zs ++ acc, _, rfl, (e2.trans e24).trans e5, upd_same, ?_⟩
            rw [take_snoc hes, more_snoc]
            exact Rel2.cat (r2.to (RnAt.k (Ext.kt (e24.trans e5)))) (ra.to (RnAt.k (Ext.kt e5)))
      · obtain ⟨M, zs, o5', rfl, e2, hM, r2⟩ := pv
        rw [List.take_of_length_le (by rw [r1.len]; exact Nat.le_refl _), ← rns_succ hd] at r2
        exact ⟨_, rfl, M, zs, _, _, _, rfl, e1.trans e2, hM, r2⟩
    · obtain ⟨L, ys, o3, o4, o5, rfl, e1, hL, r1⟩ := pv
      rw [rq.len] at r1
      refine ⟨_, rfl, L, rfl, ⟨_, SqL.of hL⟩, fun C hC => ?_⟩
      refine lc_list (xs := ys) (fun m H' => Ext H1 H' ∧ ∃ acc, H' C = some (.lst acc) ∧ Rel2 (RnAt H') acc (((rns ds ds.length).take m).filter fun es => decide ((qn ds es : Int) ≤ z))) ⟨Ext.upd hC, [], upd_same, trivial⟩ (fun m H' _ pv => SqL.of (pv.1 _ _ hL)) (fun m x H2 hx pv => ?_) (fun H2 pv => ?_)
      · obtain ⟨e2, acc, ha, ra⟩ := pv
        obtain ⟨es, hes, hrn⟩ := r1.get hx
        have e12 := e1.trans e2
        refine ⟨rfl, _, rfl, _, rfl, D, ds, x, es, rfl, hW.ext e12, RnAt.k (Ext.kt e2) _ _ hrn, len_in (Nat.le_refl _) (List.mem_of_getElem? hes), by omega, fun H3 e3 => ⟨_, rfl, _, _, rfl, rfl, _, rfl, ?_⟩⟩
        have ha3 := e3 _ _ ha
        rw [take_snoc hes, List.filter_append, List.filter_cons]
        cases hb : decide ((qn ds es : Int) ≤ z) with
        | true =>
          have kt := kt_set (ys := acc ++ [x]) ha3
          refine iteT ⟨_, rfl, acc, ha3, big_sz ?_, ext_mut (e2.trans e3) hC, acc ++ [x], upd_same, ?_⟩
          · rw [ra.len]
            refine Nat.le_trans (List.length_filter_le _ _) ?_
            rw [List.length_take]
            exact Nat.le_trans (Nat.min_le_right _ _) (rns_big hg h3)
          · rw [if_pos rfl]
            exact Rel2.cat (ra.to (RnAt.k ((Ext.kt e3).trans kt))) (Rel2.one (RnAt.k ((Ext.kt (e2.trans e3)).trans kt) _ _ hrn))
        | false =>
          rw [if_neg (by decide), List.filter_nil, List.append_nil]
          exact iteF ⟨e2.trans e3, acc, ha3, ra.to (RnAt.k (Ext.kt e3))⟩
      · obtain ⟨e2, acc, ha, ra⟩ := pv
        rw [List.take_of_length_le (by rw [r1.len]; exact Nat.le_refl _)] at ra
        exact k C acc H2 (e1.trans e2) (ext_none e1 hC) ha ra
end
end K18

set_option Elab.async false
set_option maxRecDepth 100000
set_option maxHeartbeats 4000000
namespace K18
open PySem PySem.Spec PyProof.Rows L2
def BsAt (H : Hp) (v : V) : Option (Nat × Int) → Prop
  | none => v = .non
  | some (k, m) => ∃ t, v = .ref t ∧ H t = some (.tup [nI k, .int m])
theorem BsAt.k {H H' : Hp} (e : KT H H') : ∀ {v a}, BsAt H v a → BsAt H' v a
  | _, none, h => h
  | _, some (_, _), ⟨t, h1, h2⟩ => ⟨t, h1, e _ _ h2⟩
def rV : Option (Nat × Int) → List V
  | none => [.non, .non]
  | some (k, m) => [nI k, .int m]
def RowS (ds : List Wd) (H : Hp) (v : V) (es : List En) : Prop := ∃ t u, v = .ref t ∧ H t = some (.tup (rV (out ds es) ++ [.ref u])) ∧ H u = some (.tup ((sentL ds es).map nI))
theorem Rel2.of_get {α : Type} {R : V → α → Prop} : ∀ {vs : List V} {qs : List α}, vs.length = qs.length → (∀ (i : Nat) (x : V) (q : α), vs[i]? = some x → qs[i]? = some q → R x q) → Rel2 R vs qs
  | [], [], _, _ => trivial
  | [], _ :: _, h, _ => nomatch h
  | _ :: _, [], h, _ => nomatch h
  | _ :: _, _ :: _, h, k => ⟨k 0 _ _ rfl rfl, Rel2.of_get (Nat.succ.inj h) fun i x q h1 h2 => k (i + 1) x q h1 h2⟩
theorem gds_fit {ds : List Wd} (g : Gds ds) : Fit ds := fun j hj => by
  obtain ⟨d, hd⟩ : ∃ d, ds[j]? = some d := ⟨_, List.getElem?_eq_getElem (has_lt hj)⟩
  obtain ⟨_, _, a3, a4⟩ := at_d hd
  obtain ⟨_, _, g3, _⟩ := g j d hd
  rw [a3, a4]
  exact g3
def Near (ds : List Wd) : Prop := ∀ (j : Nat) (d : Wd), ds[j]? = some d → d.2.2 ≤ d.2.1 + 1
theorem wl_of {b s D : Addr} {H : Hp} {qs : List V} {ds : List Wd} (hD : H D = some (.lst qs)) (h : Tups b s H qs ds) : Wl H D ds ∧ Gds ds ∧ Near ds := by
  have at_j : ∀ (j : Nat) (d : Wd), ds[j]? = some d → goodV d := fun j d hd => by
    obtain ⟨x, hx⟩ : ∃ x, qs[j]? = some x := ⟨_, List.getElem?_eq_getElem (by rw [h.1]; exact (List.getElem?_eq_some_iff.mp hd).1)⟩
    exact (h.2 j x d hx hd).1
  refine ⟨⟨qs, hD, Rel2.of_get h.1 fun i x d h1 h2 => ?_⟩, fun j d hd => (at_j j d hd).1, fun j d hd => (at_j j d hd).2⟩
  obtain ⟨_, q, e1, e2, _⟩ := h.2 i x d h1 h2
  exact ⟨q, e1, e2⟩
theorem inV_nI (k : Nat) : ∀ ns : List Nat, inV (nI k) (ns.map nI) = decide (k ∈ ns) := fun ns => by
  have : ns.map nI = (ns.map fun (i : Nat) => (i : Int)).map V.int := by
    rw [List.map_map]
    rfl
  rw [this]
  have z := inV_ints (k : Int) (ns.map fun (i : Nat) => (i : Int))
  rw [show inV (nI k) ((ns.map fun (i : Nat) => (i : Int)).map V.int) = _ from z]
  refine decide_eq_decide.mpr ⟨fun h => ?_, fun h => List.mem_map.mpr ⟨k, h, rfl⟩⟩
  obtain ⟨i, hi, e⟩ := List.mem_map.mp h
  have : i = k := by omega
  rw [← this]
  exact hi
theorem flat_nI (ns : List Nat) : (ns.map nI).all flatV = true := by
  rw [List.all_eq_true]
  intro v hv
  obtain ⟨n, _, rfl⟩ := List.mem_map.mp hv
  rfl
def PrAt (H : Hp) (v : V) (q : Int × Nat) : Prop := ∃ t, v = .ref t ∧ H t = some (.tup [.int q.1, nI q.2])
theorem PrAt.k {H H' : Hp} (e : KT H H') (v : V) (q : Int × Nat) (h : PrAt H v q) : PrAt H' v q := by
  obtain ⟨t, h1, h2⟩ := h
  exact ⟨t, h1, e _ _ h2⟩
theorem lex2 (p q : Int × Nat) : HT.lexLt [p.1, (p.2 : Int)] [q.1, (q.2 : Int)] = lt2 p q := by
  unfold lt2
  simp only [HT.lexLt]
  by_cases h : p.1 = q.1
  · rw [if_pos h]
    by_cases h2 : (p.2 : Int) = (q.2 : Int)
    · rw [if_pos h2, decide_eq_false (by omega)]
    · rw [if_neg h2]
      exact decide_eq_decide.mpr ⟨fun z => by omega, fun z => by omega⟩
  · rw [if_neg h]
    exact decide_eq_decide.mpr ⟨fun z => by omega, fun z => by omega⟩
def prD (q : Int × Nat) : PyData := .tuple [.int q.1, .int (q.2 : Int)]
theorem pr_shp (q : Int × Nat) : SeqAt.shaped (prD q) = true := rfl
theorem pr_lay : ∀ qs : List (Int × Nat), PyData.canLayAll0 (qs.map prD) = true ∧ PyData.depthAll (qs.map prD) ≤ 1
  | [] => ⟨rfl, by decide⟩
  | q :: qs => by
    obtain ⟨h1, h2⟩ := pr_lay qs
    refine ⟨?_, ?_⟩
    · show ((true && (true && true)) && PyData.canLayAll0 (qs.map prD)) = true
      rw [h1]
      rfl
    · show max (PyData.depth (prD q)) (PyData.depthAll (qs.map prD)) ≤ 1
      exact Nat.max_le.mpr ⟨by show max 0 (max 0 0) + 1 ≤ 1; decide, h2⟩
theorem prs_shp (qs : List (Int × Nat)) : SeqAt.shaped (.list (qs.map prD)) = true := by
  obtain ⟨h1, h2⟩ := pr_lay qs
  show (PyData.canLayAll0 (qs.map prD) && decide (PyData.depthAll (qs.map prD) + 1 ≤ 64)) = true
  rw [h1, decide_eq_true (by omega)]
  rfl
theorem pr_eqv (p q : Int × Nat) : PyData.eqv (prD p) (prD q) = decide (p = q) := by
  show ((p.1 == q.1) && (((p.2 : Int) == (q.2 : Int)) && true)) = _
  rw [Bool.eq_iff_iff]
  obtain ⟨a, b⟩ := p
  obtain ⟨c, d⟩ := q
  simp
  omega
theorem pr_any {q : Int × Nat} {qs : List (Int × Nat)} : ((qs.map prD).any fun z => PyData.eqv z (prD q)) = decide (q ∈ qs) := by
  rw [Bool.eq_iff_iff, List.any_eq_true, decide_eq_true_eq]
  constructor
  · rintro ⟨x, hx, he⟩
    obtain ⟨p, hp, rfl⟩ := List.mem_map.mp hx
    rw [pr_eqv, decide_eq_true_eq] at he
    rw [← he]
    exact hp
  · intro h
    exact ⟨prD q, List.mem_map.mpr ⟨q, h, rfl⟩, by rw [pr_eqv]; exact decide_eq_true rfl⟩
theorem all_bef {ds : List Wd} : ((plan ds).filter fun v => bef none (bg ds v)) = plan ds := List.filter_eq_self.mpr fun _ _ => rfl
section
variable {P : Program} {w : World} {K : PySem.W.Frag} {mg : Str → Option Value} {base : Heap} {A : Ad}
theorem pr_dp {H : Hp} {v : V} {q : Int × Nat} (h : PrAt H v q) : Dp K H v (prD q) := by
  obtain ⟨t, rfl, ht⟩ := h
  exact .tup (SqT.of ht) (.cons (.int _) (.cons (.int _) .nil))
theorem prs_dp {H : Hp} : ∀ {xs : List V} {qs : List (Int × Nat)}, Rel2 (PrAt H) xs qs → DpAll K H xs (qs.map prD)
  | [], [], _ => .nil
  | [], _ :: _, h => nomatch h
  | _ :: _, [], h => nomatch h
  | _ :: _, _ :: _, ⟨h1, h2⟩ => .cons (pr_dp h1) (prs_dp h2)
def spOut : Sp := fun vs H Q _ => ∃ (D : Addr) (ds : List Wd) (v : V) (es : List En), vs = [.ref D, v] ∧ Wl H D ds ∧ RnAt H v es ∧ Run ds es ∧ ds.length ≤ 1000 ∧ ∀ t u H', Ext H H' → H' t = some (.tup (rV (out ds es) ++ [.ref u])) → H' u = some (.tup ((sentL ds es).map nI)) → Q (.ref t) H'
theorem ok_outcome {f : Addr} {fd : FuncData} (F : Fun K "_law_outcome" "_law_outcome" s__law_outcome f fd) (T : Txt K mg A) : FnOk P w K mg base CX0 1 f fd pm__law_outcome spOut := by
  refine F.ok sc__law_outcome (fun vs H Q E h => ?_) (fun cdv A' outer s H vs Q E hr h => ?_)
  · obtain ⟨_, _, _, _, rfl, _⟩ := h
    rfl
  · obtain ⟨D, ds, v, es, rfl, hW, hr', hR, hsm, k⟩ := h
    refine ⟨_, pss_cons (ps_set (i := 2) sc__law_outcome.nd rfl (Or.inr rfl) (pe_non))
      (pss_cons (ps_for PassesOwn.never rfl (pi_range1 rfl T.n_range (pa_cons (pe_callB call_len_seq (by rfl) T.n_len (by decide +kernel) (pa_cons (pv 0) pa_nil)) pa_nil)) (pg_name (i := 3) sc__law_outcome.nd rfl (Or.inl rfl)) (pss_one (ps_if (pt_cmpR op_notN (pe_ix ix_tup (pv 1) (pv 3) (fun _ _ => rfl)) (pe_non) (nomark _)) (pss_cons (ps_set (i := 4) sc__law_outcome.nd rfl (Or.inl rfl) (pe_op op_add (pe_op op_add (pe_ix ix_tup (pe_ix ix_list (pv 0) (pv 3) (fun _ _ => rfl)) (pe_int) (fun _ _ => rfl)) (pe_ix ix_tup (pe_ix ix_tup (pv 1) (pv 3) (fun _ _ => rfl)) (pe_int) (fun _ _ => rfl))) (pe_ix ix_tup (pe_ix ix_tup (pv 1) (pv 3) (fun _ _ => rfl)) (pe_int) (fun _ _ => rfl))))
      (pss_one (ps_if (PW.pt (pw_or (pt_cmpR op_isN (pv 2) (pe_non) (nomark _)) (pw_or1 (pt_cmpR op_lt (pv 4) (pe_ix ix_tup (pv 2) (pe_int) (fun _ _ => rfl)) (nomark _))))) (pss_one (ps_set (i := 2) sc__law_outcome.nd rfl (Or.inr rfl) (pe_tup (pa_cons (pv 3) (pa_cons (pv 4) pa_nil))))) (pss_nil)))) (pss_nil))))
      (pss_cons (ps_setLc (i := 5) (own := [("_law_k", 3)]) (g := gName 3) (by rfl) sc__law_outcome.nd rfl rfl (sw_true rfl rfl rfl (by decide +kernel)) (pi_range1 rfl T.n_range (pa_cons (pe_callB call_len_seq (by rfl) T.n_len (by decide +kernel) (pa_cons (pv 0) pa_nil)) pa_nil)) (blkOk_by (own := [("_law_k", 3)]) (N := nm__law_outcome) (sc := defScope s__law_outcome) (by decide +kernel)) (fun _ _ _ _ _ => pg_name (i := 3) sc__law_outcome.nd rfl (Or.inl rfl)) (fun s1 H1 C1 cl fp => pts_one (pt_cmpR op_notN (pe_ix (ix_tupK (K := K) rfl) (pe_ix (ix_listK (K := K) rfl) (pv 0) (pv 3) (fun _ _ => rfl)) (pe_int) (fun _ _ => rfl)) (pe_non) (nomark _))) (fun s1 H1 C1 cl fp => pv 3))
      (pss_cons (ps_if (pt_cmpR op_isN (pv 2) (pe_non) (nomark _)) (pss_one (ps_ret (pe_tup (pa_cons (pe_non) (pa_cons (pe_non) (pa_cons (pe_callTy call_tuple_of (by rfl) T.n_tuple (by decide +kernel) (pa_cons (pv 5) pa_nil)) pa_nil)))))) (pss_nil))
      (pss_one (ps_ret (pe_op op_catE (pv 2) (pe_tup (pa_cons (pe_callTy call_tuple_of (by rfl) T.n_tuple (by decide +kernel) (pa_cons (pe_lc (own := [("_law_k", 3)]) (g := gName 3) (by rfl) sc__law_outcome.nd (pi_list (pv 5)) (blkOk_by (own := [("_law_k", 3)]) (N := nm__law_outcome) (sc := defScope s__law_outcome) (by decide +kernel)) (fun _ _ _ _ _ => pg_name (i := 3) sc__law_outcome.nd rfl (Or.inl rfl)) (fun s1 H1 C1 cl fp => pts_one (pt_cmpR op_lt (pe_ix (ix_tupK (K := K) rfl) (pe_ix (ix_listK (K := K) rfl) (pv 0) (pv 3) (fun _ _ => rfl)) (pe_int) (fun _ _ => rfl)) (pe_ix (ix_tupK (K := K) rfl) (pv 2) (pe_int) (fun _ _ => rfl)) (nomark _))) (fun s1 H1 C1 cl fp => pv 3)) pa_nil)) pa_nil)))))))), ?_⟩
    obtain ⟨qs, hD, rq⟩ := id hW
    obtain ⟨tr, us, rfl, htr, rr⟩ := id hr'
    refine ⟨_, rfl, D, qs, rfl, .inl (SqL.of hD), _, rfl, by omega, by rw [rq.len]; omega, ?_⟩
    rw [rq.len]
    refine for_range (n := ds.length) (fun i σ' H' => ∃ bv o3 o4, σ' = [some (.ref D), some (.ref tr), some bv, o3, o4, Option.none] ∧ Ext H H' ∧ BsAt H' bv (outN ds es i)) ⟨.non, _, _, rfl, Ext.rfl', rfl⟩ (fun i σ' H1 hi pv => ?_) (fun σ' H1 pv => ?_)
    · obtain ⟨bv, o3, o4, rfl, e1, hb⟩ := pv
      rw [Int.zero_add]
      obtain ⟨d, hd⟩ : ∃ d, ds[i]? = some d := ⟨_, List.getElem?_eq_getElem hi⟩
      obtain ⟨e, he⟩ : ∃ e, es[i]? = some e := ⟨_, List.getElem?_eq_getElem (by rw [hR.1]; exact hi)⟩
      obtain ⟨x, hx, tq, rfl, ht⟩ := rq.got hd
      obtain ⟨y, hy, hE⟩ := rr.got he
      have hso : outN ds es (i + 1) = step ds es (outN ds es i) i := rfl
      unfold step at hso
      rw [ent_at he] at hso
      refine ⟨_, rfl, _, rfl, tr, us, (i : Int), y, rfl, rfl, SqT.of (e1 _ _ htr), atI_nat hy, rfl, _, rfl, ?_⟩
      rw [en_non hE]
      cases e with
      | none => exact iteF ⟨bv, _, _, rfl, e1, by rw [hso]; exact hb⟩
      | some ab =>
        obtain ⟨a, b⟩ := ab
        obtain ⟨te, rfl, hte⟩ := hE
        have hh := (hR.2 i a b (by rw [ent_at he])).1
        rw [(at_d hd).1] at hh
        obtain ⟨n, hn⟩ := Option.isSome_iff_exists.mp hh
        have hbg : bg ds i = n := by rw [(at_d hd).2.1, hn]; rfl
        have h0 : (w3 d)[0]? = some (.int n) := by
          unfold w3
          rw [hn]
          rfl
        have hte1 := e1 _ _ hte
        have hDi := SqL.of (K := K) (e1 _ _ hD)
        have hTi := SqT.of (K := K) (e1 _ _ htr)
        dsimp only at hso
        rw [hbg] at hso
        refine iteT ⟨_, rfl, _, rfl, D, qs, (i : Int), .ref tq, rfl, rfl, hDi, atI_nat hx, tq, _, 0, .int n, rfl, rfl, SqT.of (e1 _ _ ht), atI_nat (j := 0) h0, _, rfl, _, rfl, tr, us, (i : Int), .ref te, rfl, rfl, hTi, atI_nat hy, te, _, 0, .int a, rfl, rfl, SqT.of hte1, rfl, _, _, rfl, rfl, _, rfl, _, rfl, tr, us, (i : Int), .ref te, rfl, rfl, hTi, atI_nat hy, te, _, 1, .int b, rfl, rfl, SqT.of hte1, rfl, _, _, rfl, rfl, ?_⟩
        cases ho : outN ds es i with
        | none =>
          rw [ho] at hb hso
          obtain rfl : bv = .non := hb
          refine ⟨_, rfl, rfl, _, rfl, iteT ⟨_, rfl, _, rfl, by show 2 ≤ sizeLine; decide, fun t ht => ⟨_, _, _, rfl, e1.trans (Ext.upd ht), ?_⟩⟩⟩
          rw [hso]
          exact ⟨t, rfl, upd_same⟩
        | some km =>
          obtain ⟨k', m'⟩ := km
          rw [ho] at hb hso
          obtain ⟨tb, rfl, htb⟩ := hb
          dsimp only at hso
          refine ⟨_, rfl, rfl, _, rfl, iteF ⟨_, rfl, _, rfl, tb, _, 1, .int m', rfl, rfl, SqT.of htb, rfl, _, _, rfl, rfl, _, rfl, ?_⟩⟩
          by_cases hlt : n + a + b < m'
          · rw [decide_eq_true hlt]
            rw [if_pos hlt] at hso
            refine iteT ⟨_, rfl, _, rfl, by show 2 ≤ sizeLine; decide, fun t ht => ⟨_, _, _, rfl, e1.trans (Ext.upd ht), ?_⟩⟩
            rw [hso]
            exact ⟨t, rfl, upd_same⟩
          · rw [decide_eq_false hlt]
            rw [if_neg hlt] at hso
            exact iteF ⟨_, _, _, rfl, e1, by rw [hso]; exact ⟨tb, rfl, htb⟩⟩
    · obtain ⟨bv, o3, o4, rfl, e1, hb⟩ := pv
      have hD1 := e1 _ _ hD
      refine ⟨_, rfl, D, qs, rfl, .inl (SqL.of hD1), _, rfl, by omega, by rw [rq.len]; omega, ?_⟩
      rw [rq.len]
      refine lc_rgR (n := ds.length) (b := has ds) (f := nI) (small_sz (by omega)) (fun x => rfl) (fun m hm H' e' Q' q' => ?_) (fun m hm _ H' e' Q' q' => ⟨_, by rw [Int.zero_add]; rfl, q' _ Ext.rfl'⟩) (fun B H7 hB e7 hlB => ?_)
      · rw [Int.zero_add]
        obtain ⟨d, hd⟩ : ∃ d, ds[m]? = some d := ⟨_, List.getElem?_eq_getElem hm⟩
        obtain ⟨x, hx, tq, rfl, ht⟩ := rq.got hd
        have h := q' H' Ext.rfl'
        rw [has_at hd] at h
        exact ⟨_, rfl, _, rfl, D, qs, (m : Int), .ref tq, rfl, rfl, SqL.of (e' _ _ hD1), atI_nat hx, tq, _, 0, bV d.1, rfl, rfl, SqT.of (e' _ _ (e1 _ _ ht)), rfl, rfl, _, rfl, h⟩
      · have hb7 := hb.k (Ext.kt e7)
        have hk : ∀ t u H', Ext H7 H' → H' t = some (.tup (rV (outN ds es ds.length) ++ [.ref u])) → H' u = some (.tup (((plan ds).filter fun v => bef (outN ds es ds.length) (bg ds v)).map nI)) → Q (.ref t) H' := fun t u H' e' ht' hu' => k t u H' ((e1.trans e7).trans e') ht' hu'
        clear hb
        cases ho : outN ds es ds.length with
        | none =>
          rw [ho] at hb7 hk
          obtain rfl : bv = .non := hb7
          refine ⟨_, rfl, rfl, _, rfl, iteT ⟨_, rfl, B, _, rfl, .inl ⟨SqL.of hlB, fun u hu => ⟨by show 3 ≤ sizeLine; decide, fun t ht => hk t u _ ((Ext.upd hu).trans (Ext.upd ht)) upd_same (by rw [upd_ne (ne_of_none upd_same ht), upd_same, all_bef]; rfl)⟩⟩⟩⟩
        | some km =>
          obtain ⟨k', m'⟩ := km
          rw [ho] at hb7 hk
          obtain ⟨tb, rfl, htb⟩ := hb7
          refine ⟨_, rfl, rfl, _, rfl, iteF ⟨_, rfl, _, rfl, B, rfl, ⟨_, SqL.of hlB⟩, fun C hC => ?_⟩⟩
          refine lc_list (xs := ((List.range ds.length).filter (has ds)).map nI) (fun m H' => Ext H7 H' ∧ H' C = some (.lst ((((plan ds).take m).filter fun v => bef (some (k', m')) (bg ds v)).map nI))) ⟨Ext.upd hC, upd_same⟩ (fun m H' _ pv => SqL.of (pv.1 _ _ hlB)) (fun m x H2 hx pv => ?_) (fun H2 pv => ?_)
          · obtain ⟨e2, ha⟩ := pv
            rw [List.getElem?_map] at hx
            cases hj : ((List.range ds.length).filter (has ds))[m]? with
            | none => rw [hj] at hx; cases hx
            | some j =>
              rw [hj] at hx
              cases hx
              have hj' : (plan ds)[m]? = some j := hj
              obtain ⟨hh, hjn⟩ := plan_has (ds := ds) hj
              obtain ⟨d, hd⟩ : ∃ d, ds[j]? = some d := ⟨_, List.getElem?_eq_getElem hjn⟩
              obtain ⟨x, hx, tq, rfl, ht⟩ := rq.got hd
              have hbg := (at_d hd).2.1
              rw [(at_d hd).1] at hh
              obtain ⟨n, hn⟩ := Option.isSome_iff_exists.mp hh
              rw [hn] at hbg
              have hb' : bg ds j = n := hbg
              have h0 : (w3 d)[0]? = some (.int n) := by
                unfold w3
                rw [hn]
                rfl
              have e72 := e7.trans e2
              have hml : m < 2000 := by
                have h1 := (List.getElem?_eq_some_iff.mp hj).1
                have h2 := plan_len ds
                unfold plan at h2
                omega
              refine ⟨rfl, _, rfl, _, rfl, D, qs, (j : Int), .ref tq, rfl, rfl, SqL.of (e72 _ _ hD1), atI_nat hx, tq, _, 0, .int n, rfl, rfl, SqT.of (e72 _ _ (e1 _ _ ht)), atI_nat (j := 0) h0, _, rfl, tb, _, 1, .int m', rfl, rfl, SqT.of (e2 _ _ htb), rfl, _, _, rfl, rfl, _, rfl, ?_⟩
              rw [take_snoc hj', List.filter_append, List.filter_cons, hb']
              have hbd : bef (some (k', m')) n = decide (n < m') := rfl
              rw [hbd]
              cases decide (n < m') with
              | true =>
                refine iteT ⟨_, rfl, _, ha, small_sz ?_, ext_mut e2 hC, ?_⟩
                · rw [List.length_map]
                  refine Nat.le_trans (List.length_filter_le _ _) ?_
                  rw [List.length_take]
                  omega
                · rw [upd_same, if_pos rfl, List.map_append]
                  rfl
              | false =>
                refine iteF ⟨e2, ?_⟩
                rw [if_neg (by decide), List.filter_nil, List.append_nil]
                exact ha
          · obtain ⟨e2, ha⟩ := pv
            rw [List.length_map] at ha
            rw [show (plan ds).take ((List.range ds.length).filter (has ds)).length = plan ds from List.take_length] at ha
            refine ⟨C, _, rfl, .inl ⟨SqL.of ha, fun u hu => ⟨by show 1 ≤ sizeLine; decide, fun t1 ht1 => ?_⟩⟩⟩
            have e3 := (Ext.upd (o := .tup (((plan ds).filter fun v => bef (some (k', m')) (bg ds v)).map nI)) hu).trans (Ext.upd (o := .tup [.ref u]) ht1)
            have hu3 := Ext.upd (o := .tup [V.ref u]) ht1 u _ (upd_same (H := H2) (a := u) (o := .tup (((plan ds).filter fun v => bef (some (k', m')) (bg ds v)).map nI)))
            exact ⟨tb, t1, [nI k', .int m'], [.ref u], rfl, rfl, e3 _ _ (e2 _ _ htb), upd_same, by show 3 ≤ sizeLine; decide, fun p H6 e6 hp => hk p u _ ((e2.trans e3).trans e6) hp (e6 _ _ hu3)⟩
end
end K18

set_option Elab.async false
set_option maxRecDepth 100000
set_option maxHeartbeats 4000000
namespace K18
open PySem PySem.Spec PyProof.Rows L2
def oF (x y z : V) : List (Str × V) := [("winner", x), ("moment", y), ("sent", z)]
def enD : En → PyData | none => .none | some (a, b) => .tuple [.int a, .int b]
/-- an entry of a run that may be bent: a right one, or data of its own -/
abbrev Eo := En ⊕ PyData
def eoD : Eo → PyData | .inl e => enD e | .inr y => y
def eoE : Eo → En | .inl e => e | .inr _ => none
/-- such data fits no way -/
def oddE : PyData → Bool
  | .none => false
  | .tuple [_] => true
  | .tuple [x, _] => isBoolD x
  | .list _ => true
  | .int _ => true
  | _ => false
def fitD (d : Wd) : PyData → Bool
  | .none => true
  | .tuple [x, y] => d.1.isSome && (betD x d.2.1 d.2.2 && betD y d.2.1 d.2.2)
  | _ => false
theorem fit_odd {d : Wd} {y : PyData} (h : oddE y = true) : fitD d y = false := by
  unfold oddE at h
  split at h <;> first | rfl | (cases h; done) | skip
  rename_i x y
  cases x with
  | bool b =>
    show (d.1.isSome && (false && betD y d.2.1 d.2.2)) = false
    rw [Bool.false_and, Bool.and_false]
  | _ => cases h
theorem odd_none {y : PyData} (h : oddE y = true) : isNoneD y = false := by
  cases y <;> first | rfl | cases h
theorem fit_en {d : Wd} {e : En} : fitD d (enD e) = true ↔ ∀ a b, e = some (a, b) → d.1.isSome = true ∧ d.2.1 ≤ a ∧ a ≤ d.2.2 ∧ d.2.1 ≤ b ∧ b ≤ d.2.2 := by
  cases e with
  | none => exact ⟨fun _ a b z => (nomatch z), fun _ => rfl⟩
  | some p =>
    obtain ⟨a, b⟩ := p
    show (d.1.isSome && ((decide (d.2.1 ≤ a) && decide (a ≤ d.2.2)) && (decide (d.2.1 ≤ b) && decide (b ≤ d.2.2)))) = true ↔ _
    simp only [Bool.and_eq_true, decide_eq_true_eq]
    constructor
    · rintro ⟨h1, ⟨h2, h3⟩, h4, h5⟩ a' b' z
      cases z
      exact ⟨h1, h2, h3, h4, h5⟩
    · intro h
      obtain ⟨h1, h2, h3, h4, h5⟩ := h a b rfl
      exact ⟨h1, ⟨h2, h3⟩, h4, h5⟩
/-- the entry at i is wrong, or there is none -/
def wrongI (ds : List Wd) (os : List Eo) (i : Nat) : Bool := decide (os.length ≤ i) || (decide (ds.length ≤ i) || !(match ds[i]?, os[i]? with | some d, some o => fitD d (eoD o) | _, _ => true))
/-- what is wrong with a run (a tuple, or a list): nothing; something; its entry i -/
def dueR (ds : List Wd) (z : Int) (ru : Bool × List Eo) : Option (Option Nat) := if ru.1 = false then some none else
  match (List.range (max ru.2.length ds.length)).find? (wrongI ds ru.2) with
  | some i => some (some i)
  | none => if (qn ds (ru.2.map eoE) : Int) ≤ z then none else some none
theorem due_at {ds : List Wd} {z : Int} {os : List Eo} {i : Nat} (hi : i < max os.length ds.length) (h : wrongI ds os i = true) (hb : ∀ j, j < i → wrongI ds os j = false) : dueR ds z (true, os) = some (some i) := by
  have : (List.range (max os.length ds.length)).find? (wrongI ds os) = some i := by
    rw [List.find?_range_eq_some]
    exact ⟨h, List.mem_range.mpr hi, fun j hj => by rw [hb j hj]; rfl⟩
  show (match (List.range (max os.length ds.length)).find? (wrongI ds os) with | some i => some (some i) | none => if (qn ds (os.map eoE) : Int) ≤ z then none else some none) = _
  rw [this]
theorem due_end {ds : List Wd} {z : Int} {os : List Eo} (hb : ∀ j, j < max os.length ds.length → wrongI ds os j = false) : dueR ds z (true, os) = if (qn ds (os.map eoE) : Int) ≤ z then none else some none := by
  have : (List.range (max os.length ds.length)).find? (wrongI ds os) = none := by
    rw [List.find?_range_eq_none]
    exact fun j hj => by rw [hb j hj]; rfl
  show (match (List.range (max os.length ds.length)).find? (wrongI ds os) with | some i => some (some i) | none => if (qn ds (os.map eoE) : Int) ≤ z then none else some none) = _
  rw [this]
theorem wrong_at {ds : List Wd} {os : List Eo} {i : Nat} {d : Wd} {o : Eo} (hd : ds[i]? = some d) (ho : os[i]? = some o) : wrongI ds os i = !fitD d (eoD o) := by
  have h1 := (List.getElem?_eq_some_iff.mp hd).1
  have h2 := (List.getElem?_eq_some_iff.mp ho).1
  unfold wrongI
  rw [decide_eq_false (by omega), decide_eq_false (by omega), hd, ho]
  rfl
/-- nothing wrong: a run -/
theorem none_wrong {ds : List Wd} {os : List Eo} (hb : ∀ j, j < max os.length ds.length → wrongI ds os j = false) (hp : ∀ o ∈ os, ∀ y, o = .inr y → oddE y = true) : os.length = ds.length ∧ os = (os.map eoE).map Sum.inl ∧ Run ds (os.map eoE) := by
  have hl : os.length = ds.length := by
    rcases Nat.lt_trichotomy os.length ds.length with h | h | h
    · have := hb os.length (by omega)
      unfold wrongI at this
      rw [decide_eq_true (Nat.le_refl _)] at this
      cases this
    · exact h
    · have := hb ds.length (by omega)
      unfold wrongI at this
      rw [decide_eq_true (Nat.le_refl ds.length), Bool.true_or, Bool.or_true] at this
      cases this
  have hin : ∀ (i : Nat) (o : Eo), os[i]? = some o → ∃ d e, ds[i]? = some d ∧ o = .inl e ∧ fitD d (enD e) = true := fun i o ho => by
    have hi := (List.getElem?_eq_some_iff.mp ho).1
    obtain ⟨d, hd⟩ : ∃ d, ds[i]? = some d := ⟨_, List.getElem?_eq_getElem (by omega)⟩
    have h := hb i (by omega)
    rw [wrong_at hd ho] at h
    cases o with
    | inl e =>
      refine ⟨d, e, hd, rfl, ?_⟩
      have : fitD d (enD e) = fitD d (eoD (.inl e)) := rfl
      rw [this]
      cases hf : fitD d (eoD (.inl e)) with
      | true => rfl
      | false => rw [hf] at h; cases h
    | inr y =>
      have := fit_odd (d := d) (hp _ (List.mem_of_getElem? ho) y rfl)
      rw [show eoD (.inr y) = y from rfl, this] at h
      cases h
  refine ⟨hl, ?_, by rw [List.length_map, hl], fun j a b he => ?_⟩
  · refine List.ext_getElem? fun i => ?_
    rw [List.getElem?_map, List.getElem?_map]
    cases ho : os[i]? with
    | none => rfl
    | some o =>
      obtain ⟨_, e, _, rfl, _⟩ := hin i o ho
      rfl
  · have he' : ((os.map eoE)[j]?).getD none = some (a, b) := he
    rw [List.getElem?_map] at he'
    cases ho : os[j]? with
    | none => rw [ho] at he'; cases he'
    | some o =>
      obtain ⟨d, e, hd, rfl, hf⟩ := hin j o ho
      rw [ho] at he'
      have hee : e = some (a, b) := he'
      obtain ⟨f0, f1, f2, f3, f4⟩ := fit_en.mp hf a b hee
      obtain ⟨a1, a2, a3, a4⟩ := at_d hd
      rw [a1, a3, a4]
      exact ⟨f0, f1, f2, f3, f4⟩
section
variable {P : Program} {w : World} {K : PySem.W.Frag} {mg : Str → Option Value} {base : Heap} {A : Ad}
theorem en_dp {H : Hp} {v : V} {e : En} (h : EnAt H v e) : Dp K H v (enD e) := by
  cases e with
  | none => rw [show v = .non from h]; exact .non
  | some p =>
    obtain ⟨a, b⟩ := p
    obtain ⟨t, rfl, ht⟩ := h
    exact .tup (SqT.of ht) (.cons (.int _) (.cons (.int _) .nil))
theorem ens_dp {H : Hp} : ∀ {xs : List V} {qs : List En}, Rel2 (EnAt H) xs qs → DpAll K H xs (qs.map enD)
  | [], [], _ => .nil
  | [], _ :: _, h => nomatch h
  | _ :: _, [], h => nomatch h
  | _ :: _, _ :: _, ⟨h1, h2⟩ => .cons (en_dp h1) (ens_dp h2)
def OutD (A : Ad) (H : Hp) (p : Addr) (o : Option (Nat × Int)) (sent : List Nat) : Prop := ∃ dx T x y, rV o = [x, y] ∧ H p = some (.ins A.Outcome dx (oF x y (.ref T))) ∧ H T = some (.tup (sent.map nI))
def spOInit (A : Ad) : Sp := fun vs H Q _ => ∃ (p dx T : Addr) (x y : V) (xs : List V), vs = [.ref p, x, y, .ref T] ∧ H p = some (.ins A.Outcome dx []) ∧ H T = some (.tup xs) ∧ T ≠ p ∧
  ∀ H', H' p = some (.ins A.Outcome dx (oF x y (.ref T))) → (∀ a o, a ≠ p → H a = some o → H' a = some o) → Q .non H'
theorem ok_oInit {f : Addr} {fd : FuncData} (F : Fun K "__init__" "Outcome.__init__" s_Outcome_init f fd) (T : Txt K mg A) : FnOk P w K mg base CX0 1 f fd pm_Outcome_init (spOInit A) := by
  refine F.ok sc_Outcome_init (fun vs H Q E h => ?_) (fun cdv A' outer s H vs Q E hr h => ?_)
  · obtain ⟨_, _, _, _, _, _, rfl, _⟩ := h
    rfl
  · obtain ⟨p, dx, T2, x, y, xs, rfl, hp, hT, nT, k⟩ := h
    refine ⟨_, pss_cons (ps_fld (pv 0) (pv 1) rfl)
      (pss_cons (ps_fld (pv 0) (pv 2) rfl)
      (pss_one (ps_fld (pv 0) (pe_callTy call_tuple_of (by rfl) T.n_tuple (by decide +kernel) (pa_cons (pv 3) pa_nil)) rfl))), ?_⟩
    refine ⟨_, rfl, _, rfl, p, A.Outcome, dx, [], rfl, hp, T.Outcome.cl, T.o_winner, (by show 0 < 1000; decide), ?_⟩
    refine ⟨_, rfl, _, rfl, p, A.Outcome, dx, _, rfl, upd_same, T.Outcome.cl, T.o_moment, (by show 1 < 1000; decide), ?_⟩
    refine ⟨_, rfl, T2, xs, rfl, .inr ⟨SqT.of (by rw [upd_ne nT, upd_ne nT]; exact hT), _, rfl, p, A.Outcome, dx, _, rfl, upd_same, T.Outcome.cl, T.o_sent, (by show 2 < 1000; decide), ?_⟩⟩
    refine k _ upd_same fun a o ha ho => ?_
    rw [upd_ne ha, upd_ne ha, upd_ne ha]
    exact ho
def spGreater : Sp := fun vs H Q _ => ∃ i j : Int, vs = [.int i, .int j] ∧ Q (.int (if j > i then j else i)) H
theorem ok_greater {f : Addr} {fd : FuncData} (F : Fun K "greater" "greater" s_greater f fd) (T : Txt K mg A) : FnOk P w K mg base CX0 1 f fd pm_greater spGreater := by
  refine F.ok sc_greater (fun vs H Q E h => ?_) (fun cdv A' outer s H vs Q E hr h => ?_)
  · obtain ⟨_, _, rfl, _⟩ := h
    rfl
  · obtain ⟨i, j, rfl, k⟩ := h
    refine ⟨_, pss_one (ps_ret (pe_callB (call_max2 rfl) (by rfl) T.n_max (by decide +kernel) (pa_cons (pe_callTy call_int1 (by rfl) T.n_int (by decide +kernel) (pa_cons (pv 0) pa_nil)) (pa_cons (pe_callTy call_int1 (by rfl) T.n_int (by decide +kernel) (pa_cons (pv 1) pa_nil)) pa_nil)))), ?_⟩
    exact ⟨_, rfl, .inl ⟨i, rfl, _, rfl, .inl ⟨j, rfl, i, j, rfl, k⟩⟩⟩
theorem dp_non {H : Hp} {v : V} {d : PyData} (h : Dp K H v d) : decide (v = .non) = isNoneD d := by
  cases h <;> rfl
def EoAt (K : PySem.W.Frag) (H : Hp) (v : V) : Eo → Prop
  | .inl e => EnAt H v e
  | .inr y => Dp K H v y ∧ oddE y = true
theorem eo_dp {H : Hp} {v : V} {o : Eo} (h : EoAt K H v o) : Dp K H v (eoD o) := by
  cases o with
  | inl e => exact en_dp h
  | inr y => exact h.1
theorem eos_dp {H : Hp} : ∀ {xs : List V} {qs : List Eo}, Rel2 (EoAt K H) xs qs → DpAll K H xs (qs.map eoD)
  | [], [], _ => .nil
  | [], _ :: _, h => nomatch h
  | _ :: _, [], h => nomatch h
  | _ :: _, _ :: _, ⟨h1, h2⟩ => .cons (eo_dp h1) (eos_dp h2)
theorem EoAt.ext {H H' : Hp} (e : Ext H H') (v : V) (o : Eo) (h : EoAt K H v o) : EoAt K H' v o := by
  cases o with
  | inl a => exact EnAt.k (Ext.kt e) v a h
  | inr y => exact ⟨dp_ext e _ _ h.1, h.2⟩
/-- a run at v, that may be bent: a tuple or a list of such entries -/
def RuAt (K : PySem.W.Frag) (H : Hp) (v : V) (ru : Bool × List Eo) : Prop := ∃ t vs, v = .ref t ∧ H t = some (if ru.1 = true then .tup vs else .lst vs) ∧ Rel2 (EoAt K H) vs ru.2
theorem RuAt.ext {H H' : Hp} {v : V} {ru : Bool × List Eo} (h : RuAt K H v ru) (e : Ext H H') : RuAt K H' v ru := by
  obtain ⟨t, vs, rfl, ht, hr⟩ := h
  exact ⟨t, vs, rfl, e _ _ ht, hr.to (EoAt.ext e)⟩
theorem RuAt.odd {H : Hp} {v : V} {ru : Bool × List Eo} (h : RuAt K H v ru) : ∀ o ∈ ru.2, ∀ y, o = .inr y → oddE y = true := by
  obtain ⟨t, vs, rfl, ht, hr⟩ := h
  intro o ho y hy
  obtain ⟨i, hi⟩ := List.getElem?_of_mem ho
  obtain ⟨x, hx, he⟩ := hr.got hi
  rw [hy] at he
  exact he.2
theorem rel_inl {H : Hp} : ∀ {vs : List V} {es : List En}, Rel2 (EoAt K H) vs (es.map Sum.inl) → Rel2 (EnAt H) vs es
  | [], [], _ => trivial
  | [], _ :: _, h => h.elim
  | _ :: _, [], h => h.elim
  | _ :: _, _ :: _, ⟨a, h⟩ => ⟨a, rel_inl h⟩
theorem inl_rel {H : Hp} : ∀ {vs : List V} {es : List En}, Rel2 (EnAt H) vs es → Rel2 (EoAt K H) vs (es.map Sum.inl)
  | [], [], _ => trivial
  | [], _ :: _, h => h.elim
  | _ :: _, [], h => h.elim
  | _ :: _, _ :: _, ⟨a, h⟩ => ⟨a, inl_rel h⟩
theorem RnAt.ru {H : Hp} {v : V} {es : List En} (h : RnAt H v es) : RuAt K H v (true, es.map Sum.inl) := by
  obtain ⟨t, vs, rfl, ht, hr⟩ := h
  exact ⟨t, vs, rfl, ht, inl_rel hr⟩
/-- a right run has nothing wrong -/
theorem due_right {ds : List Wd} {z : Int} {es : List En} (hr : Run ds es) (hq : (qn ds es : Int) ≤ z) : dueR ds z (true, es.map Sum.inl) = none := by
  have hl := hr.1
  have hm : (es.map (Sum.inl (β := PyData))).map eoE = es := by
    rw [List.map_map]
    exact List.map_id'' (fun _ => rfl) _
  rw [due_end, hm, if_pos hq]
  intro j hj
  rw [List.length_map, hl, Nat.max_self] at hj
  obtain ⟨d, hd⟩ : ∃ d, ds[j]? = some d := ⟨_, List.getElem?_eq_getElem hj⟩
  obtain ⟨e, he⟩ : ∃ e, es[j]? = some e := ⟨_, List.getElem?_eq_getElem (by omega)⟩
  rw [wrong_at (o := .inl e) hd (by rw [List.getElem?_map, he]; rfl), show fitD d (eoD (.inl e)) = true from fit_en.mpr fun a b hab => ?_]
  · rfl
  · rw [← ent_at he] at hab
    obtain ⟨h1, h2, h3, h4, h5⟩ := hr.2 j a b hab
    obtain ⟨a1, a2, a3, a4⟩ := at_d hd
    rw [a1] at h1
    rw [a3] at h2 h4
    rw [a4] at h3 h5
    exact ⟨h1, h2, h3, h4, h5⟩
/-- nothing wrong: a right run -/
theorem right_due {H : Hp} {v : V} {ds : List Wd} {z : Int} {ru : Bool × List Eo} (h : RuAt K H v ru) (hd : dueR ds z ru = none) : RnAt H v (ru.2.map eoE) ∧ Run ds (ru.2.map eoE) ∧ (qn ds (ru.2.map eoE) : Int) ≤ z := by
  have odd := h.odd
  obtain ⟨b, os⟩ := ru
  obtain ⟨t, vs, rfl, ht, hr⟩ := h
  cases b with
  | false => cases hd
  | true =>
    have hb : ∀ j, j < max os.length ds.length → wrongI ds os j = false := fun j hj => by
      cases hw : (List.range (max os.length ds.length)).find? (wrongI ds os) with
      | some i =>
        have : dueR ds z (true, os) = some (some i) := by
          show (match (List.range (max os.length ds.length)).find? (wrongI ds os) with | some i => some (some i) | none => if (qn ds (os.map eoE) : Int) ≤ z then none else some none) = _
          rw [hw]
        rw [this] at hd
        cases hd
      | none =>
        rw [List.find?_range_eq_none] at hw
        have := hw j hj
        cases hj' : wrongI ds os j with
        | false => rfl
        | true => rw [hj'] at this; cases this
    obtain ⟨h1, h2, h3⟩ := none_wrong hb odd
    rw [due_end hb] at hd
    refine ⟨⟨t, vs, rfl, ht, ?_⟩, h3, ?_⟩
    · have hr' : Rel2 (EoAt K H) vs os := hr
      rw [h2] at hr'
      exact rel_inl hr'
    · by_cases hq : (qn ds (os.map eoE) : Int) ≤ z
      · exact hq
      · rw [if_neg hq] at hd
        cases hd
end
end K18

set_option Elab.async false
set_option maxRecDepth 100000
set_option maxHeartbeats 4000000
namespace K18
open PySem PySem.Spec PyProof.Rows L2
theorem step_some {ds : List Wd} {es : List En} {best : Option (Nat × Int)} {j : Nat} {a b : Int} (he : ent es j = some (a, b)) : step ds es best j = match best with
    | none => some (j, bg ds j + a + b)
    | some (k', m') => if bg ds j + a + b < m' then some (j, bg ds j + a + b) else some (k', m') := by
  unfold step
  first
    | (rw [he]; done)
    | (rw [he]; cases best <;> rfl)
section
variable {P : Program} {w : World} {K : PySem.W.Frag} {mg : Str → Option Value} {base : Heap} {A : Ad}
def spOutOf (K : PySem.W.Frag) (A : Ad) : Sp := fun vs H Q _ => ∃ (p : Addr) (ds : List Wd) (z : Int) (v : V) (es : List En), vs = [.ref p, v] ∧ RaceD K A H p ds z ∧ ds.length ≤ 1000 ∧ RnAt H v es ∧ Run ds es ∧ ∀ q H', Ext H H' → OutD A H' q (out ds es) (sentL ds es) → Q (.ref q) H'
theorem ok_outOf {f : Addr} {fd : FuncData} (F : Fun K "outcome_of" "outcome_of" s_outcome_of f fd) (T : Txt K mg A) (O_Race_planned : OwnM P w K mg base CX0 A.Race "planned" 2 pm_Race_planned (spPlanned K A)) (O_Outcome : OwnC P w K mg base CX0 "Outcome" A.Outcome 1 pm_Outcome_init (spOInit A)) : FnOk P w K mg base CX0 4 f fd pm_outcome_of (spOutOf K A) := by
  refine F.ok sc_outcome_of (fun vs H Q E h => ?_) (fun cdv A' outer s H vs Q E hr h => ?_)
  · obtain ⟨_, _, _, _, _, rfl, _⟩ := h
    rfl
  · obtain ⟨p, ds, z, v, es, rfl, hR, hsm, hrn, hrun, k⟩ := h
    refine ⟨_, pss_cons (ps_set (i := 2) sc_outcome_of.nd rfl (Or.inl rfl) (pe_non))
      (pss_cons (ps_set (i := 3) sc_outcome_of.nd rfl (Or.inr rfl) (pe_non))
      (pss_cons (ps_for PassesOwn.never rfl (pi_tup (pe_ownM0 O_Race_planned (pv 0) T.Race.cl (hr.mono (by decide)) pass0)) (pg_name (i := 4) sc_outcome_of.nd rfl (Or.inl rfl)) (pss_one (ps_if (pt_cmpR op_notN (pe_ix ix_tup (pv 1) (pv 4) (fun _ _ => rfl)) (pe_non) (nomark _)) (pss_cons (ps_set (i := 5) sc_outcome_of.nd rfl (Or.inl rfl) (pe_op op_add (pe_fld (pe_ix ix_tup (pe_fld (pv 0) rfl) (pv 4) (fun _ _ => rfl)) rfl) (pe_callB (cr_sumT rfl) (by rfl) T.n_sum (by decide +kernel) (pa_cons (pe_ix ix_tup (pv 1) (pv 4) (fun _ _ => rfl)) pa_nil))))
      (pss_one (ps_if (PW.pt (pw_or (pt_cmpR op_isN (pv 3) (pe_non) (nomark _)) (pw_or1 (pt_cmpR op_lt (pv 5) (pv 3) (nomark _))))) (pss_cons (ps_set (i := 2) sc_outcome_of.nd rfl (Or.inl rfl) (pv 4))
      (pss_one (ps_set (i := 3) sc_outcome_of.nd rfl (Or.inr rfl) (pv 5)))) (pss_nil)))) (pss_nil))))
      (pss_cons (ps_setLc (i := 6) (own := [("way", 4)]) (g := gName 4) (by rfl) sc_outcome_of.nd rfl rfl (sw_true rfl rfl rfl (by decide +kernel)) (pi_tup (pe_ownM0 O_Race_planned (pv 0) T.Race.cl (hr.mono (by decide)) pass0)) (blkOk_by (own := [("way", 4)]) (N := nm_outcome_of) (sc := defScope s_outcome_of) (by decide +kernel)) (fun _ _ _ _ _ => pg_name (i := 4) sc_outcome_of.nd rfl (Or.inl rfl)) (fun s1 H1 C1 cl fp => pts_one (PW.pt (pw_or (pt_cmpR op_isN (pv 3) (pe_non) (nomark _)) (pw_or1 (pt_cmpR op_lt (pe_fldK (K := K) rfl (pe_ix (ix_tupK (K := K) rfl) (pe_fldK (K := K) rfl (pv 0) rfl) (pv 4) (fun _ _ => rfl)) rfl) (pv 3) (nomark _)))))) (fun s1 H1 C1 cl fp => pv 4))
      (pss_one (ps_ret (pe_new O_Outcome (hr.mono (by decide)) pass0 (pa_cons (pv 2) (pa_cons (pv 3) (pa_cons (pe_callTy call_tuple_of (by rfl) T.n_tuple (by decide +kernel) (pa_cons (pv 6) pa_nil)) pa_nil))))))))), ?_⟩
    obtain ⟨tr, us, rfl, htr, rr⟩ := id hrn
    obtain ⟨dx, T1, ws, hp, hT, hws⟩ := id hR
    have hel : es.length = ds.length := hrun.1
    refine ⟨_, rfl, p, dx, _, rfl, hp, rfl, p, ds, z, rfl, hR, hsm, fun tp H1 e1 htp => ⟨tp, rfl, ⟨_, SqT.of htp⟩, ?_⟩⟩
    rw [pl_plan] at htp
    have hl : ∀ i, (plan ds).take i = (plan ds).take i := fun _ => rfl
    refine for_it (walk_tup (xs := (plan ds).map nI)) (fun i σ' H' => H' = H1 ∧ ∃ wv mv o4 o5, σ' = [some (.ref p), some (.ref tr), some wv, some mv, o4, o5, none] ∧ rV (((plan ds).take i).foldl (step ds es) none) = [wv, mv]) ⟨rfl, _, _, _, _, rfl, rfl⟩ (fun i σ' H' _ pv => by rw [pv.1]; exact SqT.of htp) (fun i x σ' H' H2 hi pv hy => ?_) (fun σ' H' pv => ?_)
    · obtain ⟨rfl, wv, mv, o4, o5, rfl, hrv⟩ := pv
      obtain ⟨rfl, hx⟩ := hy
      rw [List.getElem?_map] at hx
      obtain ⟨j, hj, rfl⟩ := Option.map_eq_some_iff.mp hx
      obtain ⟨hhas, hjl⟩ := plan_has hj
      obtain ⟨en, he⟩ : ∃ en, es[j]? = some en := ⟨_, List.getElem?_eq_getElem (by omega)⟩
      obtain ⟨y, hy, hE⟩ := rr.got he
      have htr1 := e1 _ _ htr
      rw [take_snoc hj, List.foldl_append]
      refine ⟨_, rfl, _, rfl, tr, us, (j : Int), y, rfl, rfl, SqT.of htr1, atI_nat hy, rfl, _, rfl, ?_⟩
      rw [en_non hE]
      have hst : step ds es (((plan ds).take i).foldl (step ds es) none) j = [j].foldl (step ds es) (((plan ds).take i).foldl (step ds es) none) := rfl
      rw [← hst]
      generalize ((plan ds).take i).foldl (step ds es) none = best at hrv hst ⊢
      cases en with
      | none =>
        refine iteF ⟨rfl, _, _, _, _, rfl, ?_⟩
        unfold step
        rw [ent_at he]
        exact hrv
      | some ab =>
        obtain ⟨a, b⟩ := ab
        obtain ⟨ty, rfl, hty⟩ := hE
        obtain ⟨d, hd⟩ : ∃ d, ds[j]? = some d := ⟨_, List.getElem?_eq_getElem hjl⟩
        obtain ⟨x, hxw⟩ : ∃ x, ws[j]? = some x := ⟨_, List.getElem?_eq_getElem (by rw [hws.1]; exact hjl)⟩
        obtain ⟨q, rfl, hwq⟩ := hws.2 j x d hxw hd
        obtain ⟨dq, Tq, xq, hq, _, _⟩ := id (hwq.ext e1)
        obtain ⟨a1, a2, _, _⟩ := at_d hd
        rw [a1] at hhas
        obtain ⟨n, hn⟩ := Option.isSome_iff_exists.mp hhas
        rw [hn] at hq a2
        refine iteT ⟨_, rfl, p, A.Race, dx, _, _, rfl, e1 _ _ hp, T.Race.cl, T.r_ways, rfl, _, rfl, T1, ws, (j : Int), .ref q, rfl, rfl, hT.ext e1, atI_nat hxw, q, A.Way, dq, _, _, rfl, hq, T.Way.cl, T.w_begin, rfl, _, rfl, _, rfl, tr, us, (j : Int), .ref ty, rfl, rfl, SqT.of htr1, atI_nat hy, ty, [a, b], rfl, SqT.of (e1 _ _ hty), _, _, rfl, rfl, ?_⟩
        have hans : bg ds j + a + b = n + (a + b) := by
          rw [a2]
          show n + a + b = n + (a + b)
          omega
        rw [show [a, b].sum = a + b by show a + (b + 0) = a + b; omega]
        rw [step_some (ent_at he), hans]
        cases best with
        | none =>
          cases hrv
          exact ⟨_, rfl, rfl, _, rfl, iteT (iteT ⟨_, rfl, _, rfl, rfl, _, _, _, _, rfl, rfl⟩)⟩
        | some km =>
          obtain ⟨k', m'⟩ := km
          cases hrv
          refine ⟨_, rfl, rfl, _, rfl, iteF ⟨_, rfl, _, rfl, _, _, rfl, rfl, _, rfl, ?_⟩⟩
          by_cases hlt : n + (a + b) < m'
          · rw [decide_eq_true hlt]
            refine iteT ⟨_, rfl, _, rfl, rfl, _, _, _, _, rfl, ?_⟩
            dsimp only
            rw [if_pos hlt]
            rfl
          · rw [decide_eq_false hlt]
            refine iteF ⟨rfl, _, _, _, _, rfl, ?_⟩
            dsimp only
            rw [if_neg hlt]
            rfl
    · obtain ⟨rfl, wv, mv, o4, o5, rfl, hrv⟩ := pv
      rw [List.length_map, List.take_length, out_plan hrun] at hrv
      have hp1 := e1 _ _ hp
      have hR1 := hR.ext e1
      refine ⟨_, rfl, p, dx, _, rfl, hp1, rfl, p, ds, z, rfl, hR1, hsm, fun tp2 H2 e2 htp2 => ⟨tp2, rfl, ⟨_, SqT.of htp2⟩, fun C hC => ?_⟩⟩
      rw [pl_plan] at htp2
      have hp2 := e2 _ _ hp1
      refine lc_it (walk_tup (xs := (plan ds).map nI)) (fun i H' => Ext H2 H' ∧ H' C = some (.lst ((((plan ds).take i).filter fun v => bef (out ds es) (bg ds v)).map nI))) ⟨Ext.upd hC, upd_same⟩ (fun i H' _ pv => SqT.of (pv.1 _ _ htp2)) (fun i x H' H3 hi pv hy => ?_) (fun H' pv => ?_)
      · obtain ⟨e3, hC3⟩ := pv
        obtain ⟨rfl, hx⟩ := hy
        rw [List.getElem?_map] at hx
        obtain ⟨j, hj, rfl⟩ := Option.map_eq_some_iff.mp hx
        obtain ⟨hhas, hjl⟩ := plan_has hj
        obtain ⟨d, hd⟩ : ∃ d, ds[j]? = some d := ⟨_, List.getElem?_eq_getElem hjl⟩
        obtain ⟨x, hxw⟩ : ∃ x, ws[j]? = some x := ⟨_, List.getElem?_eq_getElem (by rw [hws.1]; exact hjl)⟩
        obtain ⟨q, rfl, hwq⟩ := hws.2 j x d hxw hd
        have e123 := (e1.trans e2).trans e3
        obtain ⟨dq, Tq, xq, hq, _, _⟩ := id (hwq.ext e123)
        obtain ⟨a1, a2, _, _⟩ := at_d hd
        rw [a1] at hhas
        obtain ⟨n, hn⟩ := Option.isSome_iff_exists.mp hhas
        rw [hn] at hq a2
        have hb : bg ds j = n := a2
        rw [take_snoc hj, List.filter_append, List.filter_cons, hb]
        have yes : bef (out ds es) n = true → ∃ acc, H3 C = some (.lst acc) ∧ acc.length < sizeLine ∧ Ext H2 (upd H3 C (.lst (acc ++ [nI j]))) ∧ upd H3 C (.lst (acc ++ [nI j])) C = some (.lst (((((plan ds).take i).filter fun v => bef (out ds es) (bg ds v)) ++ (if bef (out ds es) n = true then j :: List.filter (fun v => bef (out ds es) (bg ds v)) [] else List.filter (fun v => bef (out ds es) (bg ds v)) [])).map nI)) := fun h => by
          refine ⟨_, hC3, small_sz ?_, ext_mut e3 hC, ?_⟩
          · rw [List.length_map]
            refine Nat.le_trans (List.length_filter_le _ _) ?_
            rw [List.length_take]
            have := plan_len ds
            omega
          · rw [upd_same, if_pos h, List.map_append]
            rfl
        have no : bef (out ds es) n = false → Ext H2 H3 ∧ H3 C = some (.lst (((((plan ds).take i).filter fun v => bef (out ds es) (bg ds v)) ++ (if bef (out ds es) n = true then j :: List.filter (fun v => bef (out ds es) (bg ds v)) [] else List.filter (fun v => bef (out ds es) (bg ds v)) [])).map nI)) := fun h => by
          refine ⟨e3, ?_⟩
          rw [h, if_neg (by decide), List.filter_nil, List.append_nil]
          exact hC3
        cases ho : out ds es with
        | none =>
          rw [ho] at hrv yes
          cases hrv
          exact ⟨rfl, _, rfl, rfl, _, rfl, iteT (iteT ⟨_, rfl, yes rfl⟩)⟩
        | some km =>
          obtain ⟨k', m'⟩ := km
          rw [ho] at hrv yes no
          cases hrv
          refine ⟨rfl, _, rfl, rfl, _, rfl, iteF ⟨_, rfl, p, A.Race, dx, _, _, rfl, e3 _ _ hp2, T.Race.cl, T.r_ways, rfl, _, rfl, T1, ws, (j : Int), .ref q, rfl, rfl, hT.ext e123, atI_nat hxw, q, A.Way, dq, _, _, rfl, hq, T.Way.cl, T.w_begin, rfl, _, rfl, _, _, rfl, rfl, _, rfl, ?_⟩⟩
          cases hlt : decide (n < m') with
          | true => exact iteT ⟨_, rfl, yes hlt⟩
          | false => exact iteF (no hlt)
      · obtain ⟨e3, hC3⟩ := pv
        rw [List.length_map, List.take_length] at hC3
        have hC4 : H' C = some (.lst ((sentL ds es).map nI)) := hC3
        have e03 := (e1.trans e2).trans e3
        refine ⟨_, rfl, _, rfl, _, rfl, C, _, rfl, .inl ⟨SqL.of hC4, fun u hu => fun x0 dn hx0 hdx0 hne0 => ?_⟩⟩
        have e4 := Ext.upd (o := .tup ((sentL ds es).map nI)) hu
        have hu4 : (upd H' u (.tup ((sentL ds es).map nI))) u = some (.tup ((sentL ds es).map nI)) := upd_same
        generalize upd H' u (.tup ((sentL ds es).map nI)) = H4 at e4 hu4 hx0 hdx0 ⊢
        have e5 := (Ext.upd (o := .own x0) hdx0).upd' (o := .ins A.Outcome dn []) (by rw [upd_ne hne0.symm]; exact hx0)
        have nux : u ≠ x0 := ne_of_none hu4 hx0
        refine ⟨x0, dn, u, wv, mv, _, rfl, upd_same, e5 _ _ hu4, nux, fun H6 h6 hB => ⟨rfl, ?_⟩⟩
        refine k x0 H6 (fun a o h => hB a o (ne_of_none ((e03.trans e4) _ _ h) hx0) (e5 _ _ ((e03.trans e4) _ _ h))) ⟨dn, u, wv, mv, hrv, h6, hB u _ nux (e5 _ _ hu4)⟩
theorem fit_len {d : Wd} {y : PyData} (h0 : isNoneD y = false) (h : (isTupD y && decide ((lenD y : Int) = 2)) = false) : fitD d y = false := by
  unfold fitD
  split
  · cases h0
  · cases h
  · rfl
def spFits (K : PySem.W.Frag) (A : Ad) : Sp := fun vs H Q _ => ∃ (q : Addr) (d : Wd) (v : V) (y : PyData), vs = [.ref q, v] ∧ WayD K A H q d ∧ Dp K H v y ∧ ∀ H', Ext H H' → Q (.bl (fitD d y)) H'
theorem ok_fits {f : Addr} {fd : FuncData} (F : Fun K "fits" "fits" s_fits f fd) (T : Txt K mg A) (O_is_between : Own P w K mg base CX0 "is_between" 2 pm_is_between (spBetween K)) (O_is_tuple_of : Own P w K mg base CX0 "is_tuple_of" 1 pm_is_tuple_of (spTupleOf K)) : FnOk P w K mg base CX0 3 f fd pm_fits (spFits K A) := by
  refine F.ok sc_fits (fun vs H Q E h => ?_) (fun cdv A' outer s H vs Q E hr h => ?_)
  · obtain ⟨_, _, _, _, rfl, _⟩ := h
    rfl
  · obtain ⟨q, d, v, y, rfl, hW, hy, k⟩ := h
    refine ⟨_, pss_cons (ps_if (pt_cmpR op_isN (pv 1) (pe_non) (nomark _)) (pss_one (ps_ret (pe_bl))) (pss_nil))
      (pss_cons (ps_if (PW.pt (pw_or (pt_cmpR op_isN (pe_fld (pv 0) rfl) (pe_non) (nomark _)) (pw_or1 (pt_not (pt_val (pe_own O_is_tuple_of (hr.mono (by decide)) pass0 (pa_cons (pv 1) (pa_cons (pe_int) pa_nil)))))))) (pss_one (ps_ret (pe_bl))) (pss_nil))
      (pss_one (ps_ret (pe_callB (cr_all rfl) (by rfl) T.n_all (by decide +kernel) (pa_cons (pe_lc (own := [("delay", 2)]) (g := gName 2) (by rfl) sc_fits.nd (pi_tup (pv 1)) (blkOk_by (own := [("delay", 2)]) (N := nm_fits) (sc := defScope s_fits) (by decide +kernel)) (fun _ _ _ _ _ => pg_name (i := 2) sc_fits.nd rfl (Or.inl rfl)) (fun s1 H1 C1 cl fp => pts_nil) (fun s1 H1 C1 cl fp => pe_own O_is_between (hr.mono (by decide)) pass0 (pa_cons (pv 2) (pa_cons (pe_fldK (K := K) rfl (pv 0) rfl) (pa_cons (pe_fldK (K := K) rfl (pv 0) rfl) pa_nil))))) pa_nil))))), ?_⟩
    refine ⟨_, rfl, rfl, _, rfl, ?_⟩
    rw [dp_non hy]
    cases h0 : isNoneD y with
    | true =>
      have : y = .none := by cases y <;> first | rfl | cases h0
      subst this
      exact iteT (k _ Ext.rfl')
    | false =>
      obtain ⟨dx, T2, xs, hq, hT, hxs⟩ := id hW
      refine iteF ⟨_, rfl, q, A.Way, dx, _, _, rfl, hq, T.Way.cl, T.w_begin, rfl, rfl, _, rfl, ?_⟩
      have hbb : decide (bV d.1 = V.non) = !d.1.isSome := by cases d.1 <;> rfl
      rw [hbb]
      cases hb : d.1.isSome with
      | false =>
        have hf : fitD d y = false := by
          unfold fitD
          split
          · cases h0
          · rw [hb]; rfl
          · rfl
        rw [hf] at k
        exact iteT (k _ Ext.rfl')
      | true =>
        refine iteF ⟨_, rfl, v, y, 2, rfl, hy, _, rfl, ?_⟩
        cases h2 : (isTupD y && decide ((lenD y : Int) = 2)) with
        | false =>
          rw [fit_len h0 h2] at k
          exact iteT (k _ Ext.rfl')
        | true =>
          rw [Bool.and_eq_true, decide_eq_true_eq] at h2
          obtain ⟨t, vs, ys, rfl, ht, hvs, rfl⟩ := dp_tup hy h2.1
          have hl2 : ys.length = 2 := by
            have z := h2.2
            have z' : ((ys.length : Nat) : Int) = 2 := z
            omega
          obtain ⟨x1, x2, rfl⟩ : ∃ x1 x2, ys = [x1, x2] := by
            match ys, hl2 with
            | [a, b], _ => exact ⟨a, b, rfl⟩
          refine iteF ⟨_, rfl, t, rfl, ⟨_, ht⟩, fun C hC => ?_⟩
          refine lc_it (walk_tup (xs := vs)) (fun i H' => Ext H H' ∧ H' C = some (.lst ((([x1, x2].take i).map fun x => betD x d.2.1 d.2.2).map V.bl))) ⟨Ext.upd hC, upd_same⟩ (fun i H' _ pv => ht.ext pv.1) (fun i x H' H2 hi pv hyl => ?_) (fun H' pv => ?_)
          · obtain ⟨e2, hC2⟩ := pv
            obtain ⟨rfl, hx⟩ := hyl
            obtain ⟨u, hu, hdu⟩ := dps_get hvs hx
            have hq2 := e2 _ _ hq
            refine ⟨rfl, _, rfl, _, rfl, q, A.Way, dx, _, _, rfl, hq2, T.Way.cl, T.w_least, rfl, _, rfl, q, A.Way, dx, _, _, rfl, hq2, T.Way.cl, T.w_most, rfl, x, u, d.2.1, d.2.2, rfl, dp_ext e2 _ _ hdu, ?_⟩
            refine ⟨_, hC2, small_sz ?_, ext_mut e2 hC, ?_⟩
            · rw [List.length_map, List.length_map, List.length_take]
              exact Nat.le_trans (Nat.min_le_right _ _) (show 2 ≤ 2000 by decide)
            · rw [upd_same, take_snoc hu, List.map_append, List.map_append]
              rfl
          · obtain ⟨e2, hC2⟩ := pv
            have hvl : vs.length = 2 := dps_len hvs
            rw [hvl] at hC2
            refine ⟨C, _, rfl, SqL.of hC2, ?_⟩
            have z := k H' e2
            have : fitD d (.tuple [x1, x2]) = [betD x1 d.2.1 d.2.2, betD x2 d.2.1 d.2.2].all id := by
              show (d.1.isSome && (betD x1 d.2.1 d.2.2 && betD x2 d.2.1 d.2.2)) = _
              rw [hb]
              simp
            rw [this] at z
            exact z
def wrV : Option (Option Nat) → List V
  | none => []
  | some none => [.non]
  | some (some i) => [nI i]
def spWrong (K : PySem.W.Frag) (A : Ad) : Sp := fun vs H Q _ => ∃ (p : Addr) (ds : List Wd) (z : Int) (v : V) (ru : Bool × List Eo), vs = [.ref p, v] ∧ RaceD K A H p ds z ∧ ds.length ≤ 1000 ∧ RuAt K H v ru ∧ ru.2.length ≤ 1000 ∧ ∀ t H', Ext H H' → H' t = some (.tup (wrV (dueR ds z ru))) → Q (.ref t) H'
theorem ok_wrong {f : Addr} {fd : FuncData} (F : Fun K "wrong_of" "wrong_of" s_wrong_of f fd) (T : Txt K mg A) (O_greater : Own P w K mg base CX0 "greater" 1 pm_greater spGreater) (O_fits : Own P w K mg base CX0 "fits" 3 pm_fits (spFits K A)) (O_Race_planned : OwnM P w K mg base CX0 A.Race "planned" 2 pm_Race_planned (spPlanned K A)) : FnOk P w K mg base CX0 4 f fd pm_wrong_of (spWrong K A) := by
  refine F.ok sc_wrong_of (fun vs H Q E h => ?_) (fun cdv A' outer s H vs Q E hr h => ?_)
  · obtain ⟨_, _, _, _, _, rfl, _⟩ := h
    rfl
  · obtain ⟨p, ds, z, v, ru, rfl, hR, hsm, hru, hsr, k⟩ := h
    refine ⟨_, pss_cons (ps_if (pt_not (pt_val (pe_callB call_isi (by rfl) T.n_isinstance (by decide +kernel) (pa_cons (pv 1) (pa_cons (pe_bltn (v := .ty "tuple") (by rfl) T.n_tuple (by decide +kernel) rfl) pa_nil))))) (pss_one (ps_ret (pe_tup (pa_cons (pe_non) pa_nil)))) (pss_nil))
      (pss_cons (ps_for PassesOwn.never rfl (pi_range1 rfl T.n_range (pa_cons (pe_own O_greater (hr.mono (by decide)) pass0 (pa_cons (pe_callB call_len_seq (by rfl) T.n_len (by decide +kernel) (pa_cons (pv 1) pa_nil)) (pa_cons (pe_callB call_len_seq (by rfl) T.n_len (by decide +kernel) (pa_cons (pe_fld (pv 0) rfl) pa_nil)) pa_nil))) pa_nil)) (pg_name (i := 2) sc_wrong_of.nd rfl (Or.inl rfl)) (pss_one (ps_if (PW.pt (pw_or (pt_cmpR op_ge (pv 2) (pe_callB call_len_seq (by rfl) T.n_len (by decide +kernel) (pa_cons (pv 1) pa_nil)) (nomark _)) (pw_or (pt_cmpR op_ge (pv 2) (pe_callB call_len_seq (by rfl) T.n_len (by decide +kernel) (pa_cons (pe_fld (pv 0) rfl) pa_nil)) (nomark _)) (pw_or1 (pt_not (pt_val (pe_own O_fits (hr.mono (by decide)) pass0 (pa_cons (pe_ix ix_tup (pe_fld (pv 0) rfl) (pv 2) (fun _ _ => rfl)) (pa_cons (pe_ix ix_tup (pv 1) (pv 2) (fun _ _ => rfl)) pa_nil))))))))) (pss_one (ps_ret (pe_tup (pa_cons (pv 2) pa_nil)))) (pss_nil))))
      (pss_cons (ps_setLc (i := 3) (own := [("way", 4)]) (g := gName 4) (by rfl) sc_wrong_of.nd rfl rfl (sw_true rfl rfl rfl (by decide +kernel)) (pi_tup (pe_ownM0 O_Race_planned (pv 0) T.Race.cl (hr.mono (by decide)) pass0)) (blkOk_by (own := [("way", 4)]) (N := nm_wrong_of) (sc := defScope s_wrong_of) (by decide +kernel)) (fun _ _ _ _ _ => pg_name (i := 4) sc_wrong_of.nd rfl (Or.inl rfl)) (fun s1 H1 C1 cl fp => pts_one (pt_cmpR op_isN (pe_ix (ix_tupK (K := K) rfl) (pv 1) (pv 4) (fun _ _ => rfl)) (pe_non) (nomark _))) (fun s1 H1 C1 cl fp => pv 4))
      (pss_one (ps_ret (pe_ifExp (pt_cmpR op_gt (pe_callB call_len_seq (by rfl) T.n_len (by decide +kernel) (pa_cons (pv 3) pa_nil)) (pe_fld (pv 0) rfl) (nomark _)) (pe_tup (pa_cons (pe_non) pa_nil)) (pe_tup (pa_nil))))))), ?_⟩
    have odd := hru.odd
    obtain ⟨b, os⟩ := ru
    obtain ⟨tr, us, rfl, htr, rr⟩ := id hru
    have hsr' : os.length ≤ 1000 := hsr
    cases b with
    | false =>
      have htr' : H tr = some (.lst us) := htr
      refine ⟨_, rfl, .ref tr, .ty "tuple", _, .type "tuple", false, rfl, .ty _, dp_ty (.lst (SqL.of htr') (eos_dp rr)), kd_tup, _, rfl, iteT ⟨by show 1 ≤ sizeLine; decide, fun t ht => ?_⟩⟩
      exact k t _ (Ext.upd ht) upd_same
    | true =>
      have htr' : H tr = some (.tup us) := htr
      clear htr
      obtain ⟨dx, T1, ws, hp, hT, hws⟩ := id hR
      have hul : us.length = os.length := rr.len
      refine ⟨_, rfl, .ref tr, .ty "tuple", _, .type "tuple", true, rfl, .ty _, dp_ty (.tup (SqT.of htr') (eos_dp rr)), kd_tup, _, rfl, iteF ?_⟩
      refine ⟨_, rfl, tr, us, rfl, .inr (SqT.of htr'), _, rfl, p, A.Race, dx, _, _, rfl, hp, T.Race.cl, T.r_ways, rfl, T1, ws, rfl, .inr hT, _, _, rfl, ?_⟩
      have hN : (if (ws.length : Int) > (us.length : Int) then (ws.length : Int) else (us.length : Int)) = ((max os.length ds.length : Nat) : Int) := by
        rw [hul, hws.1]
        split <;> omega
      rw [hN]
      refine ⟨_, rfl, by omega, by omega, ?_⟩
      refine for_range (n := max os.length ds.length) (fun i σ' H' => Ext H H' ∧ (∃ o2, σ' = [some (.ref p), some (.ref tr), o2, none, none]) ∧ ∀ j, j < i → wrongI ds os j = false) ⟨Ext.rfl', ⟨_, rfl⟩, fun j hj => absurd hj (Nat.not_lt_zero _)⟩ (fun i σ' H1 hi pv => ?_) (fun σ' H1 pv => ?_)
      · obtain ⟨e1, ⟨o2, rfl⟩, hb⟩ := pv
        rw [Int.zero_add]
        have hp1 := e1 _ _ hp
        have hT1 := hT.ext e1
        have htr1 := e1 _ _ htr'
        have out : wrongI ds os i = true → (1 : Nat) ≤ sizeLine ∧ ∀ t, H1 t = none → Q (.ref t) (upd H1 t (.tup [V.int (i : Int)])) := fun h => ⟨by show 1 ≤ sizeLine; decide, fun t ht => k t _ (e1.trans (Ext.upd ht)) (by rw [due_at hi h hb]; exact upd_same)⟩
        refine ⟨_, rfl, _, rfl, tr, us, rfl, .inr (SqT.of htr1), _, _, rfl, rfl, _, rfl, ?_⟩
        by_cases g1 : os.length ≤ i
        · rw [decide_eq_true (show (i : Int) ≥ (us.length : Int) by omega)]
          refine iteT ⟨_, rfl, out ?_⟩
          unfold wrongI
          rw [decide_eq_true g1, Bool.true_or]
        · rw [decide_eq_false (show ¬ (i : Int) ≥ (us.length : Int) by omega)]
          refine iteF ⟨_, rfl, _, rfl, p, A.Race, dx, _, _, rfl, hp1, T.Race.cl, T.r_ways, rfl, T1, ws, rfl, .inr hT1, _, _, rfl, rfl, _, rfl, ?_⟩
          by_cases g2 : ds.length ≤ i
          · rw [decide_eq_true (show (i : Int) ≥ (ws.length : Int) by rw [hws.1]; omega)]
            refine iteT ⟨_, rfl, out ?_⟩
            unfold wrongI
            rw [decide_eq_true g2, Bool.true_or, Bool.or_true]
          · rw [decide_eq_false (show ¬ (i : Int) ≥ (ws.length : Int) by rw [hws.1]; omega)]
            obtain ⟨d, hd⟩ : ∃ d, ds[i]? = some d := ⟨_, List.getElem?_eq_getElem (by omega)⟩
            obtain ⟨o, ho⟩ : ∃ o, os[i]? = some o := ⟨_, List.getElem?_eq_getElem (by omega)⟩
            obtain ⟨y, hy, hE⟩ := rr.got ho
            obtain ⟨x, hx⟩ : ∃ x, ws[i]? = some x := ⟨_, List.getElem?_eq_getElem (by rw [hws.1]; omega)⟩
            obtain ⟨q, rfl, hwq⟩ := hws.2 i x d hx hd
            have hwr := wrong_at hd ho
            refine iteF ⟨_, rfl, p, A.Race, dx, _, _, rfl, hp1, T.Race.cl, T.r_ways, rfl, _, rfl, T1, ws, (i : Int), .ref q, rfl, rfl, hT1, atI_nat hx, _, rfl, _, rfl, tr, us, (i : Int), y, rfl, rfl, SqT.of htr1, atI_nat hy, ?_⟩
            refine ⟨q, d, y, eoD o, rfl, hwq.ext e1, dp_ext e1 _ _ (eo_dp hE), fun H2 e2 => ⟨_, rfl, ?_⟩⟩
            cases hf : fitD d (eoD o) with
            | true =>
              refine iteF ⟨e1.trans e2, ⟨_, rfl⟩, fun j hj => ?_⟩
              rcases Nat.lt_succ_iff_lt_or_eq.mp hj with h | h
              · exact hb j h
              · rw [h, hwr, hf]
                rfl
            | false =>
              rw [hf] at hwr
              refine iteT ⟨_, rfl, by show 1 ≤ sizeLine; decide, fun t ht => ?_⟩
              exact k t _ ((e1.trans e2).trans (Ext.upd ht)) (by rw [due_at hi hwr hb]; exact upd_same)
      · obtain ⟨e1, ⟨o2, rfl⟩, hb⟩ := pv
        have hp1 := e1 _ _ hp
        obtain ⟨hl, hos, hrun⟩ := none_wrong hb odd
        have hdue := due_end (z := z) hb
        rw [hdue] at k
        have rr' : Rel2 (EnAt H) us (os.map eoE) := by
          have r2 : Rel2 (EoAt K H) us os := rr
          rw [hos] at r2
          exact rel_inl r2
        have hel := hrun.1
        generalize os.map eoE = es at k rr' hel hrun
        refine ⟨_, rfl, p, dx, _, rfl, hp1, rfl, p, ds, z, rfl, hR.ext e1, hsm, fun tp H2 e2 htp => ⟨tp, rfl, ⟨_, SqT.of htp⟩, fun C hC => ?_⟩⟩
        rw [pl_plan] at htp
        have htr2 := e2 _ _ (e1 _ _ htr')
        refine lc_it (walk_tup (xs := (plan ds).map nI)) (fun i H' => Ext H2 H' ∧ H' C = some (.lst ((((plan ds).take i).filter fun j => (ent es j).isNone).map nI))) ⟨Ext.upd hC, upd_same⟩ (fun i H' _ pv => SqT.of (pv.1 _ _ htp)) (fun i x H' H3 hi pv hy => ?_) (fun H' pv => ?_)
        · obtain ⟨e3, hC3⟩ := pv
          obtain ⟨rfl, hx⟩ := hy
          rw [List.getElem?_map] at hx
          obtain ⟨j, hj, rfl⟩ := Option.map_eq_some_iff.mp hx
          obtain ⟨_, hjl⟩ := plan_has hj
          obtain ⟨en, he⟩ : ∃ en, es[j]? = some en := ⟨_, List.getElem?_eq_getElem (by omega)⟩
          obtain ⟨y, hy, hE⟩ := rr'.got he
          refine ⟨rfl, _, rfl, _, rfl, tr, us, (j : Int), y, rfl, rfl, SqT.of (e3 _ _ htr2), atI_nat hy, rfl, _, rfl, ?_⟩
          rw [en_non hE, take_snoc hj, List.filter_append, List.filter_cons, ent_at he]
          cases en with
          | none =>
            refine iteT ⟨_, rfl, _, hC3, small_sz ?_, ext_mut e3 hC, ?_⟩
            · rw [List.length_map]
              refine Nat.le_trans (List.length_filter_le _ _) ?_
              rw [List.length_take]
              have := plan_len ds
              omega
            · rw [upd_same, List.map_append]
              rfl
          | some ab =>
            refine iteF ⟨e3, ?_⟩
            rw [hC3]
            simp
        · obtain ⟨e3, hC3⟩ := pv
          rw [List.length_map, List.take_length] at hC3
          have hfl : ((plan ds).filter fun j => (ent es j).isNone).length = qn ds es := by
            unfold plan qn
            rw [List.filter_filter]
            congr 1
            refine List.filter_congr fun j _ => ?_
            unfold shut
            exact Bool.and_comm _ _
          have e03 := (e1.trans e2).trans e3
          refine ⟨_, rfl, C, _, rfl, .inl (SqL.of hC3), _, rfl, p, A.Race, dx, _, _, rfl, e03 _ _ hp, T.Race.cl, T.r_silent, rfl, _, _, rfl, rfl, _, rfl, ?_⟩
          rw [List.length_map, hfl]
          by_cases hq : (qn ds es : Int) ≤ z
          · rw [if_pos hq] at k
            rw [decide_eq_false (show ¬ (qn ds es : Int) > z by omega)]
            exact iteF ⟨by show 0 ≤ sizeLine; decide, fun t ht => k t _ (e03.trans (Ext.upd ht)) upd_same⟩
          · rw [if_neg hq] at k
            rw [decide_eq_true (show (qn ds es : Int) > z by omega)]
            exact iteT ⟨by show 1 ≤ sizeLine; decide, fun t ht => k t _ (e03.trans (Ext.upd ht)) upd_same⟩
end
end K18

set_option Elab.async false
set_option maxRecDepth 100000
set_option maxHeartbeats 4000000
namespace K18
open PySem PySem.Spec PyProof.Rows L2
def rvD : Option (Nat × Int) → List PyData
  | none => [.none, .none]
  | some (k, m) => [.int (k : Int), .int m]
def natsD (ns : List Nat) : List PyData := ns.map fun (n : Nat) => PyData.int (n : Int)
def outD (ds : List Wd) (es : List En) : PyData := .tuple (rvD (out ds es) ++ [.tuple (natsD (sentL ds es))])
theorem nats_lay : ∀ ns : List Nat, PyData.canLayAll0 (natsD ns) = true ∧ PyData.depthAll (natsD ns) = 0
  | [] => ⟨rfl, rfl⟩
  | n :: ns => by
    obtain ⟨h1, h2⟩ := nats_lay ns
    refine ⟨?_, ?_⟩
    · show (true && PyData.canLayAll0 (natsD ns)) = true
      rw [h1]
      rfl
    · show max 0 (PyData.depthAll (natsD ns)) = 0
      rw [h2]
      rfl
theorem out_shp (ds : List Wd) (es : List En) : SeqAt.shaped (outD ds es) = true := by
  obtain ⟨h1, h2⟩ := nats_lay (sentL ds es)
  unfold outD
  cases out ds es with
  | none =>
    show ((true && (true && (PyData.canLayAll0 (natsD (sentL ds es)) && true))) && decide (max 0 (max 0 (max (PyData.depthAll (natsD (sentL ds es)) + 1) 0)) + 1 ≤ 64)) = true
    rw [h1, h2]
    rfl
  | some km =>
    obtain ⟨k, m⟩ := km
    show ((true && (true && (PyData.canLayAll0 (natsD (sentL ds es)) && true))) && decide (max 0 (max 0 (max (PyData.depthAll (natsD (sentL ds es)) + 1) 0)) + 1 ≤ 64)) = true
    rw [h1, h2]
    rfl
/-- a lot that may be bent: (0) a tuple of indexes, (1) a list, (2) a tuple with True behind, (3) None -/
abbrev Lo := Nat × List Nat
def LoAt (H : Hp) (v : V) (lo : Lo) : Prop := match lo.1 with
  | 0 => ∃ t, v = .ref t ∧ H t = some (.tup (lo.2.map nI))
  | 1 => ∃ t, v = .ref t ∧ H t = some (.lst (lo.2.map nI))
  | 2 => ∃ t, v = .ref t ∧ H t = some (.tup (lo.2.map nI ++ [.bl true]))
  | _ => v = .non
theorem LoAt.ext {H H' : Hp} {v : V} {lo : Lo} (h : LoAt H v lo) (e : Ext H H') : LoAt H' v lo := by
  obtain ⟨k, ns⟩ := lo
  rcases k with _ | _ | _ | k
  · obtain ⟨t, h1, h2⟩ := h; exact ⟨t, h1, e _ _ h2⟩
  · obtain ⟨t, h1, h2⟩ := h; exact ⟨t, h1, e _ _ h2⟩
  · obtain ⟨t, h1, h2⟩ := h; exact ⟨t, h1, e _ _ h2⟩
  · exact h
def loD (lo : Lo) : PyData := match lo.1 with
  | 0 => .tuple (natsD lo.2)
  | 1 => .list (natsD lo.2)
  | 2 => .tuple (natsD lo.2 ++ [.bool true])
  | _ => .none
def upB (ns : List Nat) : Bool := (List.range (ns.length - 1)).all fun i => decide (ns.getD i 0 < ns.getD (i + 1) 0)
def inB (n : Nat) (ns : List Nat) : Bool := ns.all fun x => decide (x < n)
/-- a rising tuple of indexes below n -/
def lotV (n : Nat) (lo : Lo) : Bool := decide (lo.1 = 0) && (inB n lo.2 && upB lo.2)
theorem bet_nat {x n : Nat} : betD (.int (x : Int)) 0 ((n : Int) - 1) = decide (x < n) := by
  rw [bet_int, decide_eq_true (show (0 : Int) ≤ (x : Int) by omega), Bool.true_and]
  exact decide_eq_decide.mpr ⟨fun h => by omega, fun h => by omega⟩
section
variable {P : Program} {w : World} {K : PySem.W.Frag} {mg : Str → Option Value} {base : Heap} {A : Ad}
theorem nats_dp {H : Hp} : ∀ ns : List Nat, DpAll K H (ns.map nI) (natsD ns)
  | [] => .nil
  | _ :: ns => .cons (.int _) (nats_dp ns)
theorem out_dp {H : Hp} {t u : Addr} {ds : List Wd} {es : List En} (h1 : H t = some (.tup (rV (out ds es) ++ [.ref u]))) (h2 : H u = some (.tup ((sentL ds es).map nI))) : Dp K H (.ref t) (outD ds es) := by
  refine .tup (SqT.of h1) ?_
  cases out ds es with
  | none => exact .cons .non (.cons .non (.cons (.tup (SqT.of h2) (nats_dp _)) .nil))
  | some km =>
    obtain ⟨k, m⟩ := km
    exact .cons (.int _) (.cons (.int _) (.cons (.tup (SqT.of h2) (nats_dp _)) .nil))
theorem lo_dp {H : Hp} {v : V} {lo : Lo} (h : LoAt H v lo) : Dp K H v (loD lo) := by
  obtain ⟨k, ns⟩ := lo
  rcases k with _ | _ | _ | k
  · obtain ⟨t, rfl, h2⟩ := h; exact .tup (SqT.of h2) (nats_dp ns)
  · obtain ⟨t, rfl, h2⟩ := h; exact .lst (SqL.of h2) (nats_dp ns)
  · obtain ⟨t, rfl, h2⟩ := h
    refine .tup (SqT.of h2) ?_
    show DpAll K H (ns.map nI ++ [.bl true]) (natsD ns ++ [.bool true])
    clear h2
    induction ns with
    | nil => exact .cons (.bl _) .nil
    | cons n ns ih => exact .cons (.int _) ih
  · cases h; exact .non
def spRise (K : PySem.W.Frag) : Sp := fun vs H Q _ => ∃ (t : Addr) (ns : List Nat) (b : Bool) (n : Nat), vs = [.ref t, .int (n : Int)] ∧ H t = some (.tup (ns.map nI ++ (if b = true then [.bl true] else []))) ∧ ns.length ≤ 1000 ∧ ∀ H', Ext H H' → Q (.bl (!b && (inB n ns && upB ns))) H'
theorem ok_rise {f : Addr} {fd : FuncData} (F : Fun K "are_rising_indexes" "are_rising_indexes" s_are_rising_indexes f fd) (T : Txt K mg A) (O_is_index : Own P w K mg base CX0 "is_index" 3 pm_is_index (spIndex K)) : FnOk P w K mg base CX0 4 f fd pm_are_rising_indexes (spRise K) := by
  refine F.ok sc_are_rising_indexes (fun vs H Q E h => ?_) (fun cdv A' outer s H vs Q E hr h => ?_)
  · obtain ⟨_, _, _, _, rfl, _⟩ := h
    rfl
  · obtain ⟨t, ns, b, n, rfl, ht, hsm, k⟩ := h
    refine ⟨_, pss_cons (ps_if (pt_not (pt_val (pe_callB (cr_all rfl) (by rfl) T.n_all (by decide +kernel) (pa_cons (pe_lc (own := [("value", 2)]) (g := gName 2) (by rfl) sc_are_rising_indexes.nd (pi_tup (pv 0)) (blkOk_by (own := [("value", 2)]) (N := nm_are_rising_indexes) (sc := defScope s_are_rising_indexes) (by decide +kernel)) (fun _ _ _ _ _ => pg_name (i := 2) sc_are_rising_indexes.nd rfl (Or.inl rfl)) (fun s1 H1 C1 cl fp => pts_nil) (fun s1 H1 C1 cl fp => pe_own O_is_index (hr.mono (by decide)) pass0 (pa_cons (pv 2) (pa_cons (pv 1) pa_nil)))) pa_nil)))) (pss_one (ps_ret (pe_bl))) (pss_nil))
      (pss_one (ps_ret (pe_callB (cr_all rfl) (by rfl) T.n_all (by decide +kernel) (pa_cons (pe_lc (own := [("one", 3), ("other", 4)]) (g := gTup K 2 (gCons (gName 3) (gCons (gName 4) (gNil)))) (by rfl) sc_are_rising_indexes.nd (RZ.pi_zipA (by rfl) T.n_zip (pa_cons (pv 0) (pa_cons (pe_slice sl_tupE (pv 0) (po_some (pe_int)) po_none) pa_nil))) (blkOk_by (own := [("one", 3), ("other", 4)]) (N := nm_are_rising_indexes) (sc := defScope s_are_rising_indexes) (by decide +kernel)) (fun _ _ _ _ _ => pg_tup rfl (pgs_cons (pg_name (i := 3) sc_are_rising_indexes.nd rfl (Or.inl rfl)) (pgs_cons (pg_name (i := 4) sc_are_rising_indexes.nd rfl (Or.inl rfl)) (pgs_nil)))) (fun s1 H1 C1 cl fp => pts_nil) (fun s1 H1 C1 cl fp => pe_cmpR op_lt (pv 3) (pv 4) (nomark _))) pa_nil)))), ?_⟩
    have hall : ∀ (i : Nat) (x : V), (ns.map nI ++ (if b = true then [V.bl true] else []))[i]? = some x → ∃ y, Dp K H x y ∧ (List.map (fun m => decide (m < n)) ns ++ (if b = true then [false] else []))[i]? = some (betD y 0 ((n : Int) - 1)) := fun i x hx => by
      by_cases hi : i < ns.length
      · rw [List.getElem?_append_left (by rw [List.length_map]; exact hi), List.getElem?_map] at hx
        obtain ⟨m, hm, rfl⟩ := Option.map_eq_some_iff.mp hx
        refine ⟨.int (m : Int), .int _, ?_⟩
        rw [List.getElem?_append_left (by rw [List.length_map]; exact hi), List.getElem?_map, hm, bet_nat]
        rfl
      · rw [List.getElem?_append_right (by rw [List.length_map]; omega), List.length_map] at hx
        cases b with
        | false =>
          rw [if_neg (by decide)] at hx
          cases hx
        | true =>
          rw [if_pos rfl] at hx
          rw [List.getElem?_append_right (by rw [List.length_map]; omega), List.length_map, if_pos rfl]
          rcases hj : i - ns.length with _ | j
          · rw [hj] at hx
            cases hx
            exact ⟨.bool true, .bl _, rfl⟩
          · rw [hj] at hx
            cases hx
    have hlen : (ns.map nI ++ (if b = true then [V.bl true] else [])).length = (List.map (fun m => decide (m < n)) ns ++ (if b = true then [false] else [])).length := by
      cases b <;> simp
    have hl2 : (ns.map nI ++ (if b = true then [V.bl true] else [])).length ≤ 1001 := by
      cases b <;> simp <;> omega
    have hval : (List.map (fun m => decide (m < n)) ns ++ (if b = true then [false] else [])).all id = (!b && inB n ns) := by
      cases b <;> simp [inB, List.all_map]
    refine ⟨_, rfl, t, rfl, ⟨_, SqT.of ht⟩, fun C hC => ?_⟩
    refine lc_it (walk_tup (xs := ns.map nI ++ (if b = true then [V.bl true] else []))) (fun i H' => Ext H H' ∧ H' C = some (.lst (((List.map (fun m => decide (m < n)) ns ++ (if b = true then [false] else [])).take i).map V.bl))) ⟨Ext.upd hC, upd_same⟩ (fun i H' _ pv => SqT.of (pv.1 _ _ ht)) (fun i x H' H2 hi pv hy => ?_) (fun H' pv => ?_)
    · obtain ⟨e2, hC2⟩ := pv
      obtain ⟨rfl, hx⟩ := hy
      obtain ⟨y, hdy, hb⟩ := hall i x hx
      refine ⟨rfl, _, rfl, _, rfl, x, y, (n : Int), rfl, dp_ext e2 _ _ hdy, _, hC2, small_sz ?_, ext_mut e2 hC, ?_⟩
      · rw [List.length_map, List.length_take]
        omega
      · rw [upd_same, take_snoc hb, List.map_append]
        rfl
    · obtain ⟨e2, hC2⟩ := pv
      rw [hlen, List.take_length] at hC2
      refine ⟨C, _, rfl, SqL.of hC2, _, rfl, ?_⟩
      rw [hval]
      cases b with
      | true =>
        have z := k H' e2
        rw [Bool.not_true, Bool.false_and] at z
        rw [Bool.not_true, Bool.false_and]
        exact iteT z
      | false =>
        have z := k H' e2
        rw [Bool.not_false, Bool.true_and] at z
        rw [Bool.not_false, Bool.true_and]
        have ht2 : H' t = some (.tup (ns.map nI)) := by
          have := e2 _ _ ht
          rw [if_neg (by decide), List.append_nil] at this
          exact this
        cases hin : inB n ns with
        | false =>
          rw [hin] at z
          exact iteT z
        | true =>
          rw [hin, Bool.true_and] at z
          refine iteF ⟨_, rfl, _, rfl, 1, rfl, t, _, rfl, ht2, fun p H3 e3 hp => ?_⟩
          have hcut : cutV (ns.map nI) (some ((1 : Nat) : Int)) none = (ns.map nI).drop 1 := by
            show ((ns.map nI).drop (if ((1 : Nat) : Int) < 0 then (((1 : Nat) : Int) + ((ns.map nI).length : Int)).toNat else min (((1 : Nat) : Int).toNat) (ns.map nI).length)).take ((ns.map nI).length - (if ((1 : Nat) : Int) < 0 then (((1 : Nat) : Int) + ((ns.map nI).length : Int)).toNat else min (((1 : Nat) : Int).toNat) (ns.map nI).length)) = _
            rw [if_neg (by omega)]
            rcases ns with _ | ⟨m, ns⟩
            · rfl
            · rw [show min ((1 : Nat) : Int).toNat (List.map nI (m :: ns)).length = 1 by simp]
              exact List.take_of_length_le (by simp)
          rw [show (1 : Int) = ((1 : Nat) : Int) from rfl, hcut] at hp
          have hml : ns.length - 1 = min (ns.map nI).length ((ns.map nI).drop 1).length := by
            rw [List.length_drop, List.length_map]
            omega
          refine ⟨t, p, _, _, rfl, .inr ⟨SqT.of (e3 _ _ ht2), SqT.of hp, ?_⟩⟩
          refine lc_zipR (n := ns.length - 1) (b := fun _ => true) (f := fun i => V.bl (decide (ns.getD i 0 < ns.getD (i + 1) 0))) (SqT.of (e3 _ _ ht2)) (SqT.of hp) hml (small_sz (by omega)) (fun x y => rfl) (fun i x y hi hx hy H' e' Q' q' => q' H' Ext.rfl') (fun i x y hi hx hy _ H' e' Q' q' => ?_) (fun B H7 hB e7 hlB => ?_)
          · have hi1 : i + 1 < ns.length := by omega
            rw [List.getElem?_map, List.getElem?_eq_getElem (by omega)] at hx
            rw [List.getElem?_drop, List.getElem?_map, List.getElem?_eq_getElem (by omega)] at hy
            cases hx
            cases hy
            refine ⟨_, rfl, _, rfl, _, _, rfl, rfl, ?_⟩
            have g1 : ns.getD i 0 = ns[i] := by rw [List.getD_eq_getElem?_getD, List.getElem?_eq_getElem (by omega)]; rfl
            have g2 : ns.getD (i + 1) 0 = ns[1 + i] := by rw [List.getD_eq_getElem?_getD, List.getElem?_eq_getElem (by omega)]; simp [Nat.add_comm]
            have hz := q' H' Ext.rfl'
            rw [g1, g2] at hz
            have : decide ((ns[i] : Int) < (ns[1 + i] : Int)) = decide (ns[i] < ns[1 + i]) := decide_eq_decide.mpr ⟨fun h => by omega, fun h => by omega⟩
            show Q' (V.bl (decide ((ns[i] : Int) < (ns[1 + i] : Int)))) H'
            rw [this]
            exact hz
          · rw [List.filter_eq_self.mpr (fun _ _ => rfl), show (List.range (ns.length - 1)).map (fun i => V.bl (decide (ns.getD i 0 < ns.getD (i + 1) 0))) = ((List.range (ns.length - 1)).map fun i => decide (ns.getD i 0 < ns.getD (i + 1) 0)).map V.bl by rw [List.map_map]; rfl] at hlB
            refine ⟨B, _, rfl, SqL.of hlB, ?_⟩
            have : ((List.range (ns.length - 1)).map fun i => decide (ns.getD i 0 < ns.getD (i + 1) 0)).all id = upB ns := by
              rw [List.all_map]
              rfl
            rw [this]
            have z2 := k H7 ((e2.trans e3).trans e7)
            rw [Bool.not_false, Bool.true_and, hin, Bool.true_and] at z2
            exact z2
def spLot (K : PySem.W.Frag) : Sp := fun vs H Q _ => ∃ (v : V) (lo : Lo) (n : Nat), vs = [v, .int (n : Int)] ∧ LoAt H v lo ∧ lo.2.length ≤ 1000 ∧ ∀ H', Ext H H' → Q (.bl (lotV n lo)) H'
theorem ok_lot {f : Addr} {fd : FuncData} (F : Fun K "is_lot" "is_lot" s_is_lot f fd) (T : Txt K mg A) (O_are_rising_indexes : Own P w K mg base CX0 "are_rising_indexes" 4 pm_are_rising_indexes (spRise K)) : FnOk P w K mg base CX0 5 f fd pm_is_lot (spLot K) := by
  refine F.ok sc_is_lot (fun vs H Q E h => ?_) (fun cdv A' outer s H vs Q E hr h => ?_)
  · obtain ⟨_, _, _, rfl, _⟩ := h
    rfl
  · obtain ⟨v, lo, n, rfl, hlo, hsm, k⟩ := h
    refine ⟨_, pss_one (ps_ret (pe_and (pe_callB call_isi (by rfl) T.n_isinstance (by decide +kernel) (pa_cons (pv 0) (pa_cons (pe_bltn (v := .ty "tuple") (by rfl) T.n_tuple (by decide +kernel) rfl) pa_nil))) (pe_one (pe_own O_are_rising_indexes (hr.mono (by decide)) pass0 (pa_cons (pv 0) (pa_cons (pv 1) pa_nil)))))), ?_⟩
    refine ⟨v, rfl, v, .ty "tuple", .type (tnD (loD lo)), .type "tuple", isTupD (loD lo), rfl, .ty _, dp_ty (lo_dp hlo), kd_tup, _, rfl, ?_⟩
    obtain ⟨kk, ns⟩ := lo
    rcases kk with _ | _ | _ | kk
    · obtain ⟨t, rfl, ht⟩ := hlo
      refine iteT ⟨_, rfl, _, rfl, t, ns, false, n, rfl, ?_, hsm, fun H1 e1 => k H1 e1⟩
      rw [if_neg (by decide), List.append_nil]
      exact ht
    · exact iteF (k H Ext.rfl')
    · obtain ⟨t, rfl, ht⟩ := hlo
      refine iteT ⟨_, rfl, _, rfl, t, ns, true, n, rfl, ?_, hsm, fun H1 e1 => k H1 e1⟩
      rw [if_pos rfl]
      exact ht
    · exact iteF (k H Ext.rfl')
end
end K18

set_option Elab.async false
set_option maxRecDepth 100000
set_option maxHeartbeats 4000000
namespace K18
open PySem PySem.Spec PyProof.Rows L2
def CwE (A : Ad) (E : XK) (H : Hp) (v : V) : Prop := ∀ H', Ext H H' → ∀ e, H' e = none → E (.ref A.CannotWin) (some e) (upd H' e (.xd [("way", v)]))
def inWb (ds : List Wd) (w : Nat) (t : Int) : Bool := has ds w && (decide (opn ds w ≤ t) && decide (t ≤ fin ds w))
/-- a lot that shows that w never wins at t -/
def nevL (ds : List Wd) (z w : Nat) (t : Int) : List Nat := if inWb ds w t = true then (hurs ds w t).take (z + 1) else []
theorem thr_at {ds : List Wd} {w : Nat} {t n : Int} {d : Wd} (hd : ds[w]? = some d) (hn : d.1 = some n) : thr ds w t = if t - n - d.2.2 > d.2.1 then t - n - d.2.2 else d.2.1 := by
  obtain ⟨_, a2, a3, a4⟩ := at_d hd
  unfold thr
  rw [a2, a3, a4, hn]
  rfl
section
variable {P : Program} {w : World} {K : PySem.W.Frag} {mg : Str → Option Value} {base : Heap} {A : Ad}
theorem ok_xc {f : Addr} {fd : FuncData} (F : Fun K "__init__" "CannotWin.__init__" s_CannotWin_init f fd) (T : Txt K mg A) : FnOk P w K mg base CX0 1 f fd ["self", "way"] (spXI A.CannotWin "way") := by
  refine F.ok sc_CannotWin_init (fun vs H Q E h => ?_) (fun cdv A' outer s H vs Q E hr h => ?_)
  · obtain ⟨a, y, rfl, _⟩ := h
    rfl
  · obtain ⟨a, y, rfl, ha, q⟩ := h
    refine ⟨_, pss_one (ps_ost (pv 0) (pv 1)), ?_⟩
    exact ⟨_, rfl, _, rfl, a, A.CannotWin, rfl, T.CannotWin.ox, T.CannotWin.noA, .inl ⟨ha, fun dx h1 h2 => q dx h1 h2⟩⟩
def spCheckWin (K : PySem.W.Frag) (A : Ad) : Sp := fun vs H Q E => ∃ (p : Addr) (ds : List Wd) (z : Int) (w : Nat) (t : Int), vs = [.ref p, nI w, .int t] ∧ RaceD K A H p ds z ∧ ds.length ≤ 1000 ∧ w < ds.length ∧ (can ds z w t = false → CwE A E H (nI w)) ∧ (can ds z w t = true → ∀ H', Ext H H' → Q .non H')
theorem ok_checkWin {f : Addr} {fd : FuncData} (F : Fun K "check_win" "check_win" s_check_win f fd) (T : Txt K mg A) (O_Race_can_win : OwnM P w K mg base (L2.CX P w) A.Race "can_win" 8 pm_Race_can_win (spCan K A)) (X_CannotWin : XCls P w K mg base "CannotWin" "way" A.CannotWin) : FnOk P w K mg base (L2.CX P w) 9 f fd pm_check_win (spCheckWin K A) := by
  refine F.okX sc_check_win (fun vs H Q E h => ?_) (fun cdv A' outer s H vs Q E hr h => ?_)
  · obtain ⟨_, _, _, _, _, rfl, _⟩ := h
    rfl
  · obtain ⟨p, ds, z, w, t, rfl, hR, hsm, hw, qE, qQ⟩ := h
    refine ⟨_, pss_one (ps_if (pt_not (pt_val (pe_ownM O_Race_can_win (pv 0) T.Race.cl (hr.mono (by decide)) passL (pa_cons (pv 1) (pa_cons (pv 2) pa_nil))))) (pss_one (ps_raise rfl (takes_of rfl rfl rfl rfl) (pmk_X X_CannotWin (hr.mono (by decide)) (pv 1) rfl))) (pss_nil)), ?_⟩
    obtain ⟨dx, T1, ws, hp, hT, hws⟩ := id hR
    refine ⟨_, rfl, p, dx, _, rfl, hp, rfl, _, rfl, _, rfl, p, ds, z, _, .int (w : Int), t, rfl, hR, hsm, .int _, (fun h => by rw [bet_in hw] at h; cases h), fun w' hw' _ H1 e1 => ⟨_, rfl, ?_⟩⟩
    obtain rfl : w = w' := by injection hw' with hw'; omega
    cases hc : can ds z w t with
    | true => exact iteF (qQ hc _ e1)
    | false => exact iteT ⟨_, rfl, mkX_fin fun e he => qE hc _ e1 e he⟩
def spAns (K : PySem.W.Frag) (A : Ad) : Sp := fun vs H Q _ => ∃ (q : Addr) (d : Wd) (n t : Int), vs = [.ref q, .int t] ∧ WayD K A H q d ∧ d.1 = some n ∧ ∀ p H', Ext H H' → H' p = some (.tup [.int (if t - n - d.2.2 > d.2.1 then t - n - d.2.2 else d.2.1), .int (t - n - (if t - n - d.2.2 > d.2.1 then t - n - d.2.2 else d.2.1))]) → Q (.ref p) H'
theorem ok_ans {f : Addr} {fd : FuncData} (F : Fun K "answer_at" "answer_at" s_answer_at f fd) (T : Txt K mg A) (O_greater : Own P w K mg base CX0 "greater" 1 pm_greater spGreater) : FnOk P w K mg base CX0 2 f fd pm_answer_at (spAns K A) := by
  refine F.ok sc_answer_at (fun vs H Q E h => ?_) (fun cdv A' outer s H vs Q E hr h => ?_)
  · obtain ⟨_, _, _, _, rfl, _⟩ := h
    rfl
  · obtain ⟨q, d, n, t, rfl, hW, hn, k⟩ := h
    refine ⟨_, pss_cons (ps_set (i := 2) sc_answer_at.nd rfl (Or.inl rfl) (pe_op op_sub (pv 1) (pe_fld (pv 0) rfl)))
      (pss_cons (ps_set (i := 3) sc_answer_at.nd rfl (Or.inl rfl) (pe_own O_greater (hr.mono (by decide)) pass0 (pa_cons (pe_fld (pv 0) rfl) (pa_cons (pe_op op_sub (pv 2) (pe_fld (pv 0) rfl)) pa_nil))))
      (pss_one (ps_ret (pe_tup (pa_cons (pv 3) (pa_cons (pe_op op_sub (pv 2) (pv 3)) pa_nil)))))), ?_⟩
    obtain ⟨dx, T2, xs, hq, hT, hxs⟩ := id hW
    rw [hn] at hq
    refine ⟨_, rfl, _, rfl, q, A.Way, dx, _, _, rfl, hq, T.Way.cl, T.w_begin, rfl, _, _, rfl, rfl, ?_⟩
    refine ⟨_, rfl, q, A.Way, dx, _, _, rfl, hq, T.Way.cl, T.w_least, rfl, _, rfl, _, rfl, q, A.Way, dx, _, _, rfl, hq, T.Way.cl, T.w_most, rfl, _, _, rfl, rfl, _, _, rfl, ?_⟩
    exact ⟨_, rfl, _, rfl, _, rfl, _, _, rfl, rfl, by show 2 ≤ sizeLine; decide, fun p hp => k p _ (Ext.upd hp) upd_same⟩
def spWinRun (K : PySem.W.Frag) (A : Ad) : Sp := fun vs H Q E => ∃ (p : Addr) (ds : List Wd) (z : Int) (w : Nat) (t : Int), vs = [.ref p, nI w, .int t] ∧ RaceD K A H p ds z ∧ ds.length ≤ 1000 ∧ w < ds.length ∧ (can ds z w t = false → CwE A E H (nI w)) ∧ (can ds z w t = true → ∀ v H', Ext H H' → RnAt H' v (wrun ds w t) → Q v H')
theorem ok_winRun {f : Addr} {fd : FuncData} (F : Fun K "win_run" "win_run" s_win_run f fd) (T : Txt K mg A) (O_check_win : Own P w K mg base (L2.CX P w) "check_win" 9 pm_check_win (spCheckWin K A)) (O_Race_hurried : OwnM P w K mg base (L2.CX P w) A.Race "hurried" 7 pm_Race_hurried (spHur K A)) (O_answer_at : Own P w K mg base CX0 "answer_at" 2 pm_answer_at (spAns K A)) : FnOk P w K mg base (L2.CX P w) 10 f fd pm_win_run (spWinRun K A) := by
  refine F.okX sc_win_run (fun vs H Q E h => ?_) (fun cdv A' outer s H vs Q E hr h => ?_)
  · obtain ⟨_, _, _, _, _, rfl, _⟩ := h
    rfl
  · obtain ⟨p, ds, z, w, t, rfl, hR, hsm, hw, kx, k⟩ := h
    refine ⟨_, pss_cons (ps_expr (pe_ownS O_check_win (hr.mono (by decide)) (takes_of rfl rfl rfl rfl) (pa_cons (pv 0) (pa_cons (pv 1) (pa_cons (pv 2) pa_nil)))))
      (pss_cons (ps_set (i := 3) sc_win_run.nd rfl (Or.inl rfl) (pe_ownM O_Race_hurried (pv 0) T.Race.cl (hr.mono (by decide)) passL (pa_cons (pv 1) (pa_cons (pv 2) pa_nil))))
      (pss_cons (ps_set (i := 4) sc_win_run.nd rfl (Or.inl rfl) (pe_lst (pa_nil)))
      (pss_cons (ps_for (passes_of rfl) rfl (pi_enSq rfl T.n_enumerate (pa_cons (pe_fld (pv 0) rfl) pa_nil)) (pg_tup rfl (pgs_cons (pg_name (i := 5) sc_win_run.nd rfl (Or.inl rfl)) (pgs_cons (pg_name (i := 6) sc_win_run.nd rfl (Or.inl rfl)) (pgs_nil)))) (pss_one (ps_if (pt_cmpR op_eq (pv 5) (pv 1) (nomark _)) (pss_one (ps_expr (pe_bm PySem.F.plainAttrs_list PySem.F.slot_list_append PySem.F.type_list_append mt_append (pv 4) (pa_cons (pe_own O_answer_at (hr.mono (by decide)) pass0 (pa_cons (pv 6) (pa_cons (pv 2) pa_nil))) pa_nil)))) (pss_one (ps_if (PW.pt (pw_or (pt_cmpR op_in_seq (pv 5) (pv 3) (by with_unfolding_all rfl)) (pw_or1 (pt_cmpR op_isN (pe_fld (pv 6) rfl) (pe_non) (nomark _))))) (pss_one (ps_expr (pe_bm PySem.F.plainAttrs_list PySem.F.slot_list_append PySem.F.type_list_append mt_append (pv 4) (pa_cons (pe_non) pa_nil)))) (pss_one (ps_expr (pe_bm PySem.F.plainAttrs_list PySem.F.slot_list_append PySem.F.type_list_append mt_append (pv 4) (pa_cons (pe_tup (pa_cons (pe_fld (pv 6) rfl) (pa_cons (pe_fld (pv 6) rfl) pa_nil))) pa_nil)))))))))
      (pss_one (ps_ret (pe_callTy call_tuple_of (by rfl) T.n_tuple (by decide +kernel) (pa_cons (pv 4) pa_nil))))))), ?_⟩
    obtain ⟨dx, T1, ws, hp, hT, hws⟩ := id hR
    refine ⟨_, rfl, _, rfl, _, rfl, p, ds, z, w, t, rfl, hR, hsm, hw, kx, fun hc H1 e1 => ?_⟩
    have k' := k hc
    have hp1 := e1 _ _ hp
    refine ⟨_, rfl, p, dx, _, rfl, hp1, rfl, _, rfl, _, rfl, p, ds, z, _, .int (w : Int), t, rfl, hR.ext e1, hsm, .int _, (fun h => by rw [bet_in hw] at h; cases h), fun w' hw' _ tq H2 e2 htq => ?_⟩
    obtain rfl : w = w' := by injection hw' with hw'; omega
    have hh := (can_iff.mp hc).1
    refine ⟨by show 0 ≤ sizeLine; decide, fun G hG => ?_⟩
    have e02 := e1.trans e2
    have e3 := Ext.upd (o := .lst []) hG
    have hG0 : H G = none := ext_none e02 hG
    have hp3 := e3 _ _ (e2 _ _ hp1)
    have hT3 := (hT.ext e02).ext e3
    have htq3 := e3 _ _ htq
    have hG3 : upd H2 G (.lst []) G = some (.lst []) := upd_same
    have e03 := e02.trans e3
    generalize upd H2 G (.lst []) = H3 at hp3 hT3 htq3 hG3 e03 ⊢
    refine ⟨_, rfl, p, A.Race, dx, _, _, rfl, hp3, T.Race.cl, T.r_ways, rfl, ?_⟩
    refine ⟨T1, rfl, ?_⟩
    have hwr : ∀ j, j < ds.length → (wrun ds w t)[j]? = some (if j = w then some (thr ds w t, t - bg ds w - thr ds w t) else if early ds w t j = true then none else if has ds j = true then some (ms ds j, ms ds j) else none) := fun j hj => by
      unfold wrun
      rw [List.getElem?_map, List.getElem?_range hj]
      rfl
    refine for_enSqM (H0 := H) (xs := ws) (.inr hT) (fun i σ' H' => Ext H H' ∧ KT H3 H' ∧ ∃ acc o5 o6, σ' = [some (.ref p), some (nI w), some (.int t), some (.ref tq), some (.ref G), o5, o6] ∧ H' G = some (.lst acc) ∧ Rel2 (EnAt H') acc ((wrun ds w t).take i)) ⟨e03, fun _ _ h => h, [], _, _, rfl, hG3, trivial⟩ (fun i σ' H' pv => pv.1) (fun i x σ' H' T0 hx pv hT0 => ?_) (fun σ' H' pv => ?_)
    · obtain ⟨e4, kt4, acc, o5, o6, rfl, hG4, hacc⟩ := pv
      have hiw := (List.getElem?_eq_some_iff.mp hx).1
      have hi : i < ds.length := by rw [← hws.1]; exact hiw
      obtain ⟨d, hd⟩ : ∃ d, ds[i]? = some d := ⟨_, List.getElem?_eq_getElem hi⟩
      obtain ⟨q, rfl, hwq⟩ := hws.2 i x d hx hd
      have e5 := Ext.upd (o := .tup [.int (i : Int), .ref q]) hT0
      have hT05 : upd H' T0 (.tup [.int (i : Int), .ref q]) T0 = some (.tup [.int (i : Int), .ref q]) := upd_same
      have hG5 := e5 _ _ hG4
      have hacc5 := hacc.to (EnAt.k (Ext.kt e5))
      have e45 := e4.trans e5
      have hwq5 := hwq.ext e45
      have kt5 := kt4.trans (Ext.kt e5)
      have htq5 := kt5 _ _ htq3
      have hal : acc.length ≤ 1000 := by
        rw [hacc.len, List.length_take]
        omega
      clear hG4 hacc hT0 e5
      generalize upd H' T0 (.tup [.int (i : Int), .ref q]) = H5 at hT05 hG5 hacc5 e45 hwq5 kt5 htq5 ⊢
      obtain ⟨dq, Tq, xq, hq, _, _⟩ := id hwq5
      obtain ⟨a1, a2, a3, a4⟩ := at_d hd
      have hwri := hwr i hi
      have fin : ∀ (v : V) (e : En) (H6 : Hp), Ext H5 H6 → EnAt H6 v e → (wrun ds w t)[i]? = some e → ∃ l xs y, V.ref G = .ref l ∧ ([v] : List V) = [y] ∧ H6 l = some (.lst xs) ∧ xs.length < sizeLine ∧ (Ext H (upd H6 l (.lst (xs ++ [y]))) ∧ KT H3 (upd H6 l (.lst (xs ++ [y]))) ∧ ∃ acc o5 o6, [some (.ref p), some (nI w), some (.int t), some (.ref tq), some (.ref G), some (.int (i : Int)), some (.ref q)] = [some (.ref p), some (nI w), some (.int t), some (.ref tq), some (.ref G), o5, o6] ∧ upd H6 l (.lst (xs ++ [y])) G = some (.lst acc) ∧ Rel2 (EnAt (upd H6 l (.lst (xs ++ [y])))) acc ((wrun ds w t).take (i + 1))) := fun v e H6 e6 hE he => by
        have hG6 := e6 _ _ hG5
        have kt := kt_set (ys := acc ++ [v]) hG6
        refine ⟨G, acc, v, rfl, rfl, hG6, small_sz (by omega), ext_mut (e45.trans e6) hG0, (kt5.trans (Ext.kt e6)).trans kt, acc ++ [v], _, _, rfl, upd_same, ?_⟩
        rw [take_snoc he]
        exact Rel2.cat (hacc5.to (EnAt.k ((Ext.kt e6).trans kt))) (Rel2.one (EnAt.k kt _ _ hE))
      refine ⟨T0, [.int (i : Int), .ref q], rfl, SqT.of hT05, rfl, .int (i : Int), [.ref q], rfl, .ref q, [], rfl, rfl, ?_⟩
      refine ⟨_, rfl, _, rfl, rfl, _, rfl, ?_⟩
      have hiw' : decide (V.int (i : Int) = nI w) = decide (i = w) := by
        rw [show nI w = V.int (w : Int) from rfl, dvi]
        exact decide_eq_decide.mpr ⟨fun h => by omega, fun h => by omega⟩
      rw [hiw']
      by_cases he : i = w
      · subst he
        rw [decide_eq_true rfl]
        rw [if_pos rfl] at hwri
        rw [a1] at hh
        obtain ⟨n, hn⟩ := Option.isSome_iff_exists.mp hh
        have hbn : bg ds i = n := by rw [a2, hn]; rfl
        refine iteT ⟨_, rfl, .inl ⟨rfl, _, SqL.of hG5⟩, _, rfl, _, rfl, q, d, n, t, rfl, hwq5, hn, fun p6 H6 e6 hp6 => ?_⟩
        rw [← thr_at (t := t) hd hn, ← hbn] at hp6
        exact fin _ (some (thr ds i t, t - bg ds i - thr ds i t)) H6 e6 ⟨p6, rfl, hp6⟩ hwri
      · rw [decide_eq_false he]
        rw [if_neg he] at hwri
        refine iteF ⟨_, rfl, _, rfl, tq, _, rfl, .inr (SqT.of htq5), rfl, flat_nI _, _, rfl, ?_⟩
        rw [show inV (V.int (i : Int)) ((hurs ds w t).map nI) = decide (i ∈ hurs ds w t) from inV_nI i _]
        have hmem : decide (i ∈ hurs ds w t) = early ds w t i := by
          unfold hurs
          rw [Bool.eq_iff_iff, decide_eq_true_eq, List.mem_filter, List.mem_range]
          exact ⟨fun h => h.2, fun h => ⟨hi, h⟩⟩
        rw [hmem]
        cases hea : early ds w t i with
        | true =>
          rw [hea, if_pos rfl] at hwri
          exact iteT ⟨_, rfl, .inl ⟨rfl, _, SqL.of hG5⟩, fin .non none H5 Ext.rfl' rfl hwri⟩
        | false =>
          rw [hea, if_neg (by decide)] at hwri
          refine iteF ⟨_, rfl, q, A.Way, dq, _, _, rfl, hq, T.Way.cl, T.w_begin, rfl, rfl, _, rfl, ?_⟩
          have hbb : decide (bV d.1 = V.non) = !d.1.isSome := by cases d.1 <;> rfl
          rw [hbb]
          rw [a1] at hwri
          cases hb : d.1.isSome with
          | false =>
            rw [hb, if_neg (by decide)] at hwri
            exact iteT ⟨_, rfl, .inl ⟨rfl, _, SqL.of hG5⟩, fin .non none H5 Ext.rfl' rfl hwri⟩
          | true =>
            rw [hb, if_pos rfl, a4] at hwri
            refine iteF ⟨_, rfl, .inl ⟨rfl, _, SqL.of hG5⟩, _, rfl, q, A.Way, dq, _, _, rfl, hq, T.Way.cl, T.w_most, rfl, _, rfl, q, A.Way, dq, _, _, rfl, hq, T.Way.cl, T.w_most, rfl, by show 2 ≤ sizeLine; decide, fun p6 hp6 => ?_⟩
            exact fin _ (some (d.2.2, d.2.2)) _ (Ext.upd hp6) ⟨p6, rfl, upd_same⟩ hwri
    · obtain ⟨e4, _, acc, o5, o6, rfl, hG4, hacc⟩ := pv
      have hwl : (wrun ds w t).length = ds.length := by unfold wrun; rw [List.length_map, List.length_range]
      rw [hws.1, ← hwl, List.take_length] at hacc
      refine ⟨_, rfl, G, acc, rfl, .inl ⟨SqL.of hG4, fun u hu => ?_⟩⟩
      have e5 := Ext.upd (o := .tup acc) hu
      exact k' _ _ (e4.trans e5) ⟨u, acc, rfl, upd_same, hacc.to (EnAt.k (Ext.kt e5))⟩
def spInW (K : PySem.W.Frag) (A : Ad) : Sp := fun vs H Q _ => ∃ (p : Addr) (ds : List Wd) (z : Int) (w : Nat) (t : Int), vs = [.ref p, nI w, .int t] ∧ RaceD K A H p ds z ∧ ds.length ≤ 1000 ∧ w < ds.length ∧ ∀ H', Ext H H' → Q (.bl (inWb ds w t)) H'
theorem ok_inW {f : Addr} {fd : FuncData} (F : Fun K "in_window" "in_window" s_in_window f fd) (T : Txt K mg A) (O_Way_window : OwnM P w K mg base CX0 A.Way "window" 1 pm_Way_window (spWindow K A)) : FnOk P w K mg base CX0 2 f fd pm_in_window (spInW K A) := by
  refine F.ok sc_in_window (fun vs H Q E h => ?_) (fun cdv A' outer s H vs Q E hr h => ?_)
  · obtain ⟨_, _, _, _, _, rfl, _⟩ := h
    rfl
  · obtain ⟨p, ds, z, w, t, rfl, hR, hsm, hw, k⟩ := h
    refine ⟨_, pss_cons (ps_set (i := 3) sc_in_window.nd rfl (Or.inl rfl) (pe_ownM0 O_Way_window (pe_ix ix_tup (pe_fld (pv 0) rfl) (pv 1) (fun _ _ => rfl)) T.Way.cl (hr.mono (by decide)) pass0))
      (pss_one (ps_ret (pe_and (pe_cmpR op_notN (pv 3) (pe_non) (nomark _)) (pe_one (pe_chain op_le op_le (pe_ix ix_tup (pv 3) (pe_int) (fun _ _ => rfl)) (pv 2) (pe_ix ix_tup (pv 3) (pe_int) (fun _ _ => rfl))))))), ?_⟩
    obtain ⟨dx, T1, ws, q, dq, fs, dw, hp, hT, hx, hqi, hq, hl, hlk, a1, a2⟩ := way_at hR hw
    refine ⟨_, rfl, p, A.Race, dx, _, _, rfl, hp, T.Race.cl, T.r_ways, rfl, _, rfl, T1, ws, (w : Int), .ref q, rfl, rfl, hT, atI_nat hx, q, dq, _, rfl, hqi, hlk, q, dw.1, dw.2.1, dw.2.2, [], rfl, hq, fun hn => ?_, fun n hn tw H1 e1 htw => ?_⟩
    · have h := k H Ext.rfl'
      rw [show inWb ds w t = false by unfold inWb; rw [a1, hn]; rfl] at h
      exact ⟨_, rfl, rfl, _, rfl, iteF h⟩
    · obtain ⟨o1, o2⟩ := a2 n hn
      have hh : has ds w = true := by rw [a1, hn]; rfl
      have h := k H1 e1
      unfold inWb at h
      rw [hh, Bool.true_and] at h
      refine ⟨_, rfl, rfl, _, rfl, iteT ⟨_, rfl, tw, _, 0, .int (n + 2 * dw.2.1), rfl, rfl, SqT.of htw, rfl, _, rfl, _, _, rfl, rfl, _, rfl, ?_⟩⟩
      rw [o1]
      cases h1 : decide (opn ds w ≤ t) with
      | false =>
        rw [h1] at h
        exact iteF h
      | true =>
        rw [h1, Bool.true_and] at h
        refine iteT ⟨_, rfl, tw, _, 1, .int (n + 2 * dw.2.2), rfl, rfl, SqT.of htw, rfl, _, _, rfl, rfl, ?_⟩
        rw [o2]
        exact h
def spWinP (K : PySem.W.Frag) (A : Ad) : Sp := fun vs H Q _ => ∃ (p : Addr) (ds : List Wd) (z w : Nat) (t : Int), vs = [.ref p, nI w, .int t] ∧ RaceD K A H p ds (z : Int) ∧ ds.length ≤ 1000 ∧ w < ds.length ∧ (can ds (z : Int) w t = true → ∀ T v H', Ext H H' → H' T = some (.tup [.str (Str.ofString "win"), v]) → RnAt H' v (wrun ds w t) → Q (.ref T) H') ∧
  (can ds (z : Int) w t = false → ∀ T u H', Ext H H' → H' T = some (.tup [.str (Str.ofString "never"), .ref u]) → H' u = some (.tup ((nevL ds z w t).map nI)) → Q (.ref T) H')
theorem ok_winP {f : Addr} {fd : FuncData} (F : Fun K "win_paper" "win_paper" s_win_paper f fd) (T : Txt K mg A) (O_Race_can_win : OwnM P w K mg base (L2.CX P w) A.Race "can_win" 8 pm_Race_can_win (spCan K A)) (O_Race_hurried : OwnM P w K mg base (L2.CX P w) A.Race "hurried" 7 pm_Race_hurried (spHur K A))
    (O_win_run : Own P w K mg base (L2.CX P w) "win_run" 10 pm_win_run (spWinRun K A)) (O_in_window : Own P w K mg base CX0 "in_window" 2 pm_in_window (spInW K A)) : FnOk P w K mg base CX0 11 f fd pm_win_paper (spWinP K A) := by
  refine F.ok sc_win_paper (fun vs H Q E h => ?_) (fun cdv A' outer s H vs Q E hr h => ?_)
  · obtain ⟨_, _, _, _, _, rfl, _⟩ := h
    rfl
  · obtain ⟨p, ds, z, w, t, rfl, hR, hsm, hw, kt, kf⟩ := h
    refine ⟨_, pss_cons (ps_if (pt_val (pe_ownM O_Race_can_win (pv 0) T.Race.cl (hr.mono (by decide)) passL (pa_cons (pv 1) (pa_cons (pv 2) pa_nil)))) (pss_one (ps_ret (pe_tup (pa_cons (pe_str) (pa_cons (pe_own O_win_run (hr.mono (by decide)) passL (pa_cons (pv 0) (pa_cons (pv 1) (pa_cons (pv 2) pa_nil)))) pa_nil))))) (pss_nil))
      (pss_cons (ps_if (pt_not (pt_val (pe_own O_in_window (hr.mono (by decide)) pass0 (pa_cons (pv 0) (pa_cons (pv 1) (pa_cons (pv 2) pa_nil)))))) (pss_one (ps_ret (pe_tup (pa_cons (pe_str) (pa_cons (pe_tup (pa_nil)) pa_nil))))) (pss_nil))
      (pss_one (ps_ret (pe_tup (pa_cons (pe_str) (pa_cons (pe_slice sl_tupE (pe_ownM O_Race_hurried (pv 0) T.Race.cl (hr.mono (by decide)) passL (pa_cons (pv 1) (pa_cons (pv 2) pa_nil))) po_none (po_some (pe_op op_add (pe_fld (pv 0) rfl) (pe_int)))) pa_nil)))))), ?_⟩
    obtain ⟨dx, T1, ws, hp, hT, hws⟩ := id hR
    refine ⟨_, rfl, p, dx, _, rfl, hp, rfl, _, rfl, _, rfl, p, ds, (z : Int), _, .int (w : Int), t, rfl, hR, hsm, .int _, (fun h => by rw [bet_in hw] at h; cases h), fun w' hw' _ H1 e1 => ⟨_, rfl, ?_⟩⟩
    obtain rfl : w = w' := by injection hw' with hw'; omega
    cases hc : can ds (z : Int) w t with
    | true =>
      refine iteT ⟨_, rfl, _, rfl, _, rfl, p, ds, (z : Int), w, t, rfl, hR.ext e1, hsm, hw, (fun h => by rw [hc] at h; cases h), fun _ v H2 e2 hv => ⟨by show 2 ≤ sizeLine; decide, fun T2 hT2 => ?_⟩⟩
      have e3 := Ext.upd (o := .tup [.str (Str.ofString "win"), v]) hT2
      exact kt hc T2 v _ ((e1.trans e2).trans e3) upd_same (RnAt.k (Ext.kt e3) _ _ hv)
    | false =>
      have kf' := kf hc
      unfold nevL at kf'
      refine iteF ⟨_, rfl, _, rfl, _, rfl, p, ds, (z : Int), w, t, rfl, hR.ext e1, hsm, hw, fun H2 e2 => ⟨_, rfl, ?_⟩⟩
      have hp2 := e2 _ _ (e1 _ _ hp)
      cases hin : inWb ds w t with
      | false =>
        rw [hin, if_neg (by decide)] at kf'
        refine iteT ⟨by show 0 ≤ sizeLine; decide, fun u hu => ⟨by show 2 ≤ sizeLine; decide, fun T2 hT2 => ?_⟩⟩
        have e3 := Ext.upd (o := .tup []) hu
        have e4 := Ext.upd (o := .tup [.str (Str.ofString "never"), .ref u]) hT2
        exact kf' T2 u _ (((e1.trans e2).trans e3).trans e4) upd_same (e4 _ _ upd_same)
      | true =>
        rw [hin, if_pos rfl] at kf'
        refine iteF ⟨_, rfl, p, dx, _, rfl, hp2, rfl, _, rfl, _, rfl, p, ds, (z : Int), _, .int (w : Int), t, rfl, (hR.ext e1).ext e2, hsm, .int _, (fun h => by rw [bet_in hw] at h; cases h), fun w' hw' _ tq H3 e3 htq => ?_⟩
        obtain rfl : w = w' := by injection hw' with hw'; omega
        refine ⟨_, rfl, p, A.Race, dx, _, _, rfl, e3 _ _ hp2, T.Race.cl, T.r_silent, rfl, _, _, rfl, rfl, (z : Int) + 1, rfl, tq, _, rfl, htq, fun u H4 e4 hu => ⟨by show 2 ≤ sizeLine; decide, fun T2 hT2 => ?_⟩⟩
        have e5 := Ext.upd (o := .tup [.str (Str.ofString "never"), .ref u]) hT2
        have hcut : cutV ((hurs ds w t).map nI) none (some ((z : Int) + 1)) = ((hurs ds w t).take (z + 1)).map nI := by
          show ((((hurs ds w t).map nI)).drop 0).take ((if (z : Int) + 1 < 0 then ((z : Int) + 1 + (((hurs ds w t).map nI).length : Int)).toNat else min (((z : Int) + 1).toNat) ((hurs ds w t).map nI).length) - 0) = _
          rw [if_neg (by omega), List.drop_zero, List.map_take, show ((z : Int) + 1).toNat = z + 1 by omega, Nat.sub_zero]
          by_cases hl : z + 1 ≤ ((hurs ds w t).map nI).length
          · rw [Nat.min_eq_left hl]
          · rw [Nat.min_eq_right (by omega), List.take_length, List.take_of_length_le (by omega)]
        rw [hcut] at hu
        exact kf' T2 u _ ((((e1.trans e2).trans e3).trans e4).trans e5) upd_same (e5 _ _ hu)
end
end K18

set_option Elab.async false
set_option maxRecDepth 100000
set_option maxHeartbeats 4000000
namespace K18
open PySem PySem.Spec PyProof.Rows L2
/-- a planned way with its end -/
def EeAt (ds : List Wd) (H : Hp) (v : V) (j : Nat) : Prop := ∃ t, v = .ref t ∧ H t = some (.tup [nI j, .int (fin ds j)])
theorem EeAt.k {ds : List Wd} {H H' : Hp} (e : KT H H') (v : V) (j : Nat) (h : EeAt ds H v j) : EeAt ds H' v j := by
  obtain ⟨t, h1, h2⟩ := h
  exact ⟨t, h1, e _ _ h2⟩
theorem nat_perm {m : List Nat} {ns : List Int} (h : ns.Perm (m.map fun j : Nat => (j : Int))) (hs : ns.Pairwise (· ≤ ·)) (hn : m.Nodup) : ∃ l : List Nat, ns.map V.int = l.map nI ∧ l.Pairwise (· < ·) ∧ l.length = m.length ∧ ∀ j ∈ l, j ∈ m := by
  have hin : ∀ x ∈ ns, ∃ j ∈ m, (j : Int) = x := fun x hx => List.mem_map.mp (h.mem_iff.mp hx)
  have hnd : (m.map fun j : Nat => (j : Int)).Nodup := by
    rw [List.nodup_iff_pairwise_ne, List.pairwise_map]
    rw [List.nodup_iff_pairwise_ne] at hn
    exact hn.imp fun h e => h (by omega)
  have hnd2 := h.nodup_iff.mpr hnd
  rw [List.nodup_iff_pairwise_ne] at hnd2
  refine ⟨ns.map Int.toNat, ?_, ?_, by rw [List.length_map, h.length_eq, List.length_map], fun j hj => ?_⟩
  · rw [List.map_map]
    refine List.map_congr_left fun x hx => ?_
    obtain ⟨j, _, rfl⟩ := hin x hx
    rfl
  · rw [List.pairwise_map]
    refine List.Pairwise.imp_of_mem (fun {x y} hx hy hxy => ?_) (List.pairwise_and_iff.mpr ⟨hs, hnd2⟩)
    obtain ⟨a, _, rfl⟩ := hin x hx
    obtain ⟨b, _, rfl⟩ := hin y hy
    have h1 := hxy.1
    have h2 := hxy.2
    omega
  · obtain ⟨x, hx, rfl⟩ := List.mem_map.mp hj
    obtain ⟨a, ha, rfl⟩ := hin x hx
    exact ha
section
variable {P : Program} {w : World} {K : PySem.W.Frag} {mg : Str → Option Value} {base : Heap} {A : Ad}
def spByEnd (K : PySem.W.Frag) (A : Ad) : Sp := fun vs H Q _ => ∃ (p : Addr) (ds : List Wd) (z : Int), vs = [.ref p] ∧ RaceD K A H p ds z ∧ ds.length ≤ 60 ∧ ∀ L (order : List Int) H', Ext H H' → H L = none → order.Pairwise (· < ·) → (∀ j ∈ plan ds, fin ds j ∈ order) → H' L = some (.lst ((bE ds order).map nI)) → Q (.ref L) H'
theorem ok_byEnd {f : Addr} {fd : FuncData} (F : Fun K "ways_by_end" "ways_by_end" s_ways_by_end f fd) (T : Txt K mg A) (O_Race_planned : OwnM P w K mg base CX0 A.Race "planned" 2 pm_Race_planned (spPlanned K A)) (O_Way_window : OwnM P w K mg base CX0 A.Way "window" 1 pm_Way_window (spWindow K A)) : FnOk P w K mg base CX0 3 f fd pm_ways_by_end (spByEnd K A) := by
  refine F.ok sc_ways_by_end (fun vs H Q E h => ?_) (fun cdv A' outer s H vs Q E hr h => ?_)
  · obtain ⟨_, _, _, rfl, _⟩ := h
    rfl
  · obtain ⟨p, ds, z, rfl, hR, hsm, k⟩ := h
    refine ⟨_, pss_cons (ps_set (i := 1) sc_ways_by_end.nd rfl (Or.inr rfl) (pe_lc (own := [("way", 3)]) (g := gName 3) (by rfl) sc_ways_by_end.nd (pi_tup (pe_ownM0 O_Race_planned (pv 0) T.Race.cl (hr.mono (by decide)) pass0)) (blkOk_by (own := [("way", 3)]) (N := nm_ways_by_end) (sc := defScope s_ways_by_end) (by decide +kernel)) (fun _ _ _ _ _ => pg_name (i := 3) sc_ways_by_end.nd rfl (Or.inl rfl)) (fun s1 H1 C1 cl fp => pts_nil) (fun s1 H1 C1 cl fp => pe_tup (pa_cons (pv 3) (pa_cons (pe_ix (ix_tupK (K := K) rfl) (pe_ownM0 O_Way_window (pe_ix (ix_tupK (K := K) rfl) (pe_fldK (K := K) rfl (pv 0) rfl) (pv 3) (fun _ _ => rfl)) T.Way.cl (hr.mono (by decide)) pass0) (pe_int) (fun _ _ => rfl)) pa_nil)))))
      (pss_cons (ps_set (i := 2) sc_ways_by_end.nd rfl (Or.inl rfl) (pe_callB (cr_sortedSet rfl) (by rfl) T.n_sorted (by decide +kernel) (pa_cons (pe_callTy (cr_setLI rfl) (by rfl) T.n_set (by decide +kernel) (pa_cons (pe_lc (own := [("_", 4), ("end", 5)]) (g := gTup K 2 (gCons (gName 4) (gCons (gName 5) (gNil)))) (by rfl) sc_ways_by_end.nd (pi_list (pv 1)) (blkOk_by (own := [("_", 4), ("end", 5)]) (N := nm_ways_by_end) (sc := defScope s_ways_by_end) (by decide +kernel)) (fun _ _ _ _ _ => pg_tup rfl (pgs_cons (pg_name (i := 4) sc_ways_by_end.nd rfl (Or.inl rfl)) (pgs_cons (pg_name (i := 5) sc_ways_by_end.nd rfl (Or.inl rfl)) (pgs_nil)))) (fun s1 H1 C1 cl fp => pts_nil) (fun s1 H1 C1 cl fp => pv 5)) pa_nil)) pa_nil)))
      (pss_one (ps_ret (pe_lc2 (own := [("end", 5), ("way", 3), ("told", 6)]) (vs1 := [3, 6]) (g := gName 5) (g1 := gTup K 2 (gCons (gName 3) (gCons (gName 6) (gNil)))) (by rfl) sc_ways_by_end.nd (pi_list (pv 2)) (blkOk_by (own := [("end", 5), ("way", 3), ("told", 6)]) (N := nm_ways_by_end) (sc := defScope s_ways_by_end) (by decide +kernel)) (by decide) (fun s1 H1 C1 cl fp => pg_name (i := 5) sc_ways_by_end.nd rfl (Or.inl rfl)) (fun s1 H1 C1 cl fp => pts_nil) (fun s1 H1 C1 cl fp => pi_listK (K := K) rfl (pv 1)) (fun s1 H1 C1 cl fp => pg_tup rfl (pgs_cons (pg_name (i := 3) sc_ways_by_end.nd rfl (Or.inl rfl)) (pgs_cons (pg_name (i := 6) sc_ways_by_end.nd rfl (Or.inl rfl)) (pgs_nil)))) (fun s1 H1 C1 cl fp => pts_one (pt_cmpR op_eq (pv 6) (pv 5) (nomark _))) (fun s1 H1 C1 cl fp => pv 3))))), ?_⟩
    obtain ⟨dx, T1, ws, hp, hT, hws⟩ := id hR
    have hpl : (plan ds).length ≤ 60 := Nat.le_trans (plan_len ds) hsm
    refine ⟨_, rfl, p, dx, _, rfl, hp, rfl, p, ds, z, rfl, hR, by omega, fun tp H1 e1 htp => ⟨tp, rfl, ⟨_, SqT.of htp⟩, fun D hD => ?_⟩⟩
    rw [pl_plan] at htp
    have hT1 := hT.ext e1
    have hR1 := hR.ext e1
    have hp1 := e1 _ _ hp
    refine lc_it (walk_tup (xs := (plan ds).map nI)) (fun i H' => Ext H1 H' ∧ ∃ acc, H' D = some (.lst acc) ∧ Rel2 (EeAt ds H') acc ((plan ds).take i)) ⟨Ext.upd hD, [], upd_same, trivial⟩ (fun i H' _ pv => SqT.of (pv.1 _ _ htp)) (fun i x H' H2 hi pv hy => ?_) (fun H' pv => ?_)
    · obtain ⟨e2, acc, hD2, hacc⟩ := pv
      obtain ⟨rfl, hx⟩ := hy
      rw [List.getElem?_map] at hx
      obtain ⟨j, hj, rfl⟩ := Option.map_eq_some_iff.mp hx
      obtain ⟨hh, hjn⟩ := plan_has hj
      obtain ⟨dx', T1', ws', q, dq, fs, dj, hp', hT', hx', hqi, hq, hl, hlk, a1, a2⟩ := way_at (hR1.ext e2) hjn
      refine ⟨rfl, _, rfl, _, rfl, p, A.Race, dx', _, _, rfl, hp', T.Race.cl, T.r_ways, rfl, _, rfl, T1', ws', (j : Int), .ref q, rfl, rfl, hT', atI_nat hx', q, dq, _, rfl, hqi, hlk, q, dj.1, dj.2.1, dj.2.2, [], rfl, hq, (fun hn => by rw [a1, hn] at hh; cases hh), fun n hn tw H3 e3 htw => ⟨tw, _, 1, .int (n + 2 * dj.2.2), rfl, rfl, SqT.of htw, rfl, by show 2 ≤ sizeLine; decide, fun t ht => ?_⟩⟩
      have e4 := Ext.upd (o := .tup [nI j, .int (n + 2 * dj.2.2)]) ht
      have e34 := e3.trans e4
      have hD3 := e34 _ _ hD2
      have kt := kt_set (ys := acc ++ [.ref t]) hD3
      refine ⟨_, hD3, small_sz ?_, ext_mut (e2.trans e34) hD, acc ++ [.ref t], upd_same, ?_⟩
      · rw [hacc.len, List.length_take]
        omega
      · rw [take_snoc hj]
        refine Rel2.cat (hacc.to (EeAt.k ((Ext.kt e34).trans kt))) (Rel2.one ⟨t, rfl, kt _ _ ?_⟩)
        rw [(a2 n hn).2]
        exact upd_same
    · obtain ⟨e2, acc, hD2, hacc⟩ := pv
      rw [List.length_map, List.take_length] at hacc
      have hal : acc.length = (plan ds).length := hacc.len
      have e02 := e1.trans e2
      refine ⟨_, rfl, D, rfl, ⟨_, SqL.of hD2⟩, fun C hC => ?_⟩
      refine lc_list (xs := acc) (fun i H2 => Ext H' H2 ∧ H2 C = some (.lst ((((plan ds).take i).map (fin ds)).map V.int))) ⟨Ext.upd hC, upd_same⟩ (fun i H2 _ pv => SqL.of (pv.1 _ _ hD2)) (fun i x H2 hx pv => ?_) (fun H2 pv => ?_)
      · obtain ⟨e3, hC3⟩ := pv
        have hi := (List.getElem?_eq_some_iff.mp hx).1
        obtain ⟨j, hj⟩ : ∃ j, (plan ds)[i]? = some j := ⟨_, List.getElem?_eq_getElem (by omega)⟩
        obtain ⟨x', hx', t, rfl, ht⟩ := hacc.got hj
        rw [hx'] at hx
        cases hx
        refine ⟨t, _, rfl, SqT.of (e3 _ _ ht), rfl, _, _, rfl, _, _, rfl, rfl, ?_⟩
        refine ⟨rfl, _, rfl, _, hC3, small_sz ?_, ext_mut e3 hC, ?_⟩
        · rw [List.length_map, List.length_map, List.length_take]
          omega
        · rw [upd_same, take_snoc hj, List.map_append, List.map_append]
          rfl
      · obtain ⟨e3, hC3⟩ := pv
        rw [hal, List.take_length] at hC3
        refine ⟨C, _, rfl, SqL.of hC3, by rw [List.length_map]; exact hpl, fun u c hu hc => ?_⟩
        rw [List.length_map] at hc
        refine ⟨u, _, c, rfl, upd_same, by omega, fun order O hup hmem hlen hO => ?_⟩
        have hmem' : ∀ j ∈ plan ds, fin ds j ∈ order := fun j hj => (hmem _).mpr (decide_eq_true (List.mem_map.mpr ⟨j, hj, rfl⟩))
        have e4 := Ext.upd (o := SetO w u (fun j => decide (j ∈ (plan ds).map (fin ds))) c) hu
        have e5 := Ext.upd (o := .lst (order.map V.int)) hO
        have e05 := ((e02.trans e3).trans e4).trans e5
        have hO5 : upd (upd H2 u (SetO w u (fun j => decide (j ∈ (plan ds).map (fin ds))) c)) O (.lst (order.map V.int)) O = some (.lst (order.map V.int)) := upd_same
        have hD5 := e5 _ _ (e4 _ _ (e3 _ _ hD2))
        have hacc5 := hacc.to (EeAt.k (((Ext.kt e3).trans (Ext.kt e4)).trans (Ext.kt e5)))
        have hbl := bE_len hup hmem'
        have hlen2 : ∀ (a b : Nat) (e : Int), order[a]? = some e → ((order.take a).flatMap (fun e => (plan ds).filter fun j => decide (fin ds j = e)) ++ ((plan ds).take b).filter fun j => decide (fin ds j = e)).length ≤ 2000 := fun a b e he => by
          have h1 : ((order.take (a + 1)).flatMap fun e => (plan ds).filter fun j => decide (fin ds j = e)).Sublist (bE ds order) := by
            unfold bE
            have h0 := congrArg (List.flatMap fun e => (plan ds).filter fun j => decide (fin ds j = e)) (List.take_append_drop (a + 1) order)
            rw [List.flatMap_append] at h0
            rw [← h0]
            exact List.sublist_append_left _ _
          rw [take_snoc he, List.flatMap_append, List.flatMap_singleton] at h1
          have h2 := h1.length_le
          rw [List.length_append] at h2 ⊢
          have h3 := ((List.take_sublist b (plan ds)).filter fun j => decide (fin ds j = e)).length_le
          omega
        refine ⟨_, rfl, O, rfl, ⟨_, SqL.of hO5⟩, fun B hB => ?_⟩
        refine steps_list (xs := order.map V.int) (fun a H6 => Ext (upd (upd H2 u (SetO w u (fun j => decide (j ∈ (plan ds).map (fin ds))) c)) O (.lst (order.map V.int))) H6 ∧ H6 B = some (.lst (((order.take a).flatMap fun e => (plan ds).filter fun j => decide (fin ds j = e)).map nI))) ⟨Ext.upd hB, upd_same⟩ (fun a H6 _ pv => SqL.of (pv.1 _ _ hO5)) (fun a x H6 hx pv => ?_) (fun H6 pv => ?_)
        · obtain ⟨e6, hB6⟩ := pv
          rw [List.getElem?_map] at hx
          obtain ⟨e, he, rfl⟩ := Option.map_eq_some_iff.mp hx
          refine ⟨rfl, _, rfl, D, rfl, ⟨_, SqL.of (e6 _ _ hD5)⟩, ?_⟩
          refine steps_list (xs := acc) (fun b H7 => Ext (upd (upd H2 u (SetO w u (fun j => decide (j ∈ (plan ds).map (fin ds))) c)) O (.lst (order.map V.int))) H7 ∧ H7 B = some (.lst (((order.take a).flatMap (fun e => (plan ds).filter fun j => decide (fin ds j = e)) ++ ((plan ds).take b).filter fun j => decide (fin ds j = e)).map nI))) ⟨e6, by rw [List.take_zero, List.filter_nil, List.append_nil]; exact hB6⟩ (fun b H7 _ pv => SqL.of (pv.1 _ _ hD5)) (fun b x H7 hx pv => ?_) (fun H7 pv => ?_)
          · obtain ⟨e7, hB7⟩ := pv
            have hi := (List.getElem?_eq_some_iff.mp hx).1
            obtain ⟨j, hj⟩ : ∃ j, (plan ds)[b]? = some j := ⟨_, List.getElem?_eq_getElem (by omega)⟩
            obtain ⟨x', hx', t, rfl, ht⟩ := hacc5.got hj
            rw [hx'] at hx
            cases hx
            refine ⟨t, _, rfl, SqT.of (e7 _ _ ht), rfl, _, _, rfl, _, _, rfl, rfl, rfl, ?_⟩
            refine ⟨_, rfl, _, rfl, rfl, _, rfl, ?_⟩
            rw [dvi, take_snoc hj, List.filter_append, List.filter_cons]
            by_cases hfe : fin ds j = e
            · rw [decide_eq_true hfe, if_pos rfl]
              refine iteT ⟨_, rfl, _, hB7, small_sz ?_, ext_mut e7 hB, ?_⟩
              · rw [List.length_map]
                exact hlen2 a b e he
              · have hm1 : ∀ l : List Nat, l.map nI ++ [nI j] = (l ++ [j]).map nI := fun l => by rw [List.map_append]; rfl
                rw [upd_same, List.filter_nil, ← List.append_assoc, hm1]
            · rw [decide_eq_false hfe, if_neg (by decide)]
              refine iteF ⟨e7, ?_⟩
              rw [List.filter_nil, List.append_nil]
              exact hB7
          · obtain ⟨e7, hB7⟩ := pv
            rw [hal, List.take_length] at hB7
            refine ⟨e7, ?_⟩
            rw [take_snoc he, List.flatMap_append, List.flatMap_singleton]
            exact hB7
        · obtain ⟨e6, hB6⟩ := pv
          rw [List.length_map, List.take_length] at hB6
          exact k B order H6 (e05.trans e6) (ext_none e05 hB) hup hmem' hB6
def spLatP (K : PySem.W.Frag) (A : Ad) : Sp := fun vs H Q _ => ∃ (p : Addr) (ds : List Wd) (z : Nat), vs = [.ref p] ∧ RaceD K A H p ds (z : Int) ∧ ds.length ≤ 60 ∧ Fit ds ∧ ∀ (E : List Int), E.Perm (ends ds) → E.Pairwise (· ≤ ·) → (E[z]? = none → ∀ H', Ext H H' → Q .non H') ∧
  ∀ L, E[z]? = some L → ∀ w T v u (ns : List Nat) H', can ds (z : Int) w L = true → Ext H H' → H' T = some (.tup [v, .ref u]) → RnAt H' v (wrun ds w L) → H' u = some (.tup (ns.map nI)) → ns.Pairwise (· < ·) → ns.length = z + 1 → (∀ j ∈ ns, has ds j = true ∧ fin ds j ≤ L) → Q (.ref T) H'
theorem ok_latP {f : Addr} {fd : FuncData} (F : Fun K "latest_paper" "latest_paper" s_latest_paper f fd) (T : Txt K mg A) (O_Race_latest : OwnM P w K mg base CX0 A.Race "latest" 3 pm_Race_latest (spLatest K A)) (O_ways_by_end : Own P w K mg base CX0 "ways_by_end" 3 pm_ways_by_end (spByEnd K A)) (O_win_run : Own P w K mg base (L2.CX P w) "win_run" 10 pm_win_run (spWinRun K A)) : FnOk P w K mg base CX0 11 f fd pm_latest_paper (spLatP K A) := by
  refine F.ok sc_latest_paper (fun vs H Q E h => ?_) (fun cdv A' outer s H vs Q E hr h => ?_)
  · obtain ⟨_, _, _, rfl, _⟩ := h
    rfl
  · obtain ⟨p, ds, z, rfl, hR, hsm, hf, k⟩ := h
    refine ⟨_, pss_cons (ps_set (i := 1) sc_latest_paper.nd rfl (Or.inl rfl) (pe_ownM0 O_Race_latest (pv 0) T.Race.cl (hr.mono (by decide)) pass0))
      (pss_cons (ps_if (pt_cmpR op_isN (pv 1) (pe_non) (nomark _)) (pss_one (ps_ret (pe_non))) (pss_nil))
      (pss_cons (ps_set (i := 2) sc_latest_paper.nd rfl (Or.inl rfl) (pe_slice sl_list (pe_own O_ways_by_end (hr.mono (by decide)) pass0 (pa_cons (pv 0) pa_nil)) po_none (po_some (pe_op op_add (pe_fld (pv 0) rfl) (pe_int)))))
      (pss_one (ps_ret (pe_tup (pa_cons (pe_own O_win_run (hr.mono (by decide)) passL (pa_cons (pv 0) (pa_cons (pe_ix ix_list (pv 2) (pe_un un_neg (pe_int)) (fun _ _ => rfl)) (pa_cons (pv 1) pa_nil)))) (pa_cons (pe_callTy call_tuple_of (by rfl) T.n_tuple (by decide +kernel) (pa_cons (pe_callB cr_sortedI (by rfl) T.n_sorted (by decide +kernel) (pa_cons (pe_lc (own := [("way", 3)]) (g := gName 3) (by rfl) sc_latest_paper.nd (pi_list (pv 2)) (blkOk_by (own := [("way", 3)]) (N := nm_latest_paper) (sc := defScope s_latest_paper) (by decide +kernel)) (fun _ _ _ _ _ => pg_name (i := 3) sc_latest_paper.nd rfl (Or.inl rfl)) (fun s1 H1 C1 cl fp => pts_nil) (fun s1 H1 C1 cl fp => pe_callTy call_int1 (by rfl) T.n_int (by decide +kernel) (pa_cons (pv 3) pa_nil))) pa_nil)) pa_nil)) pa_nil))))))), ?_⟩
    obtain ⟨dx, T1, ws, hp, hT, hws⟩ := id hR
    refine ⟨_, rfl, p, dx, _, rfl, hp, rfl, p, ds, (z : Int), rfl, hR, by omega, by omega, fun E0 H1 hperm hsrt e1 => ?_⟩
    rw [Int.toNat_natCast]
    obtain ⟨k1, k2⟩ := k E0 hperm hsrt
    refine ⟨_, rfl, rfl, _, rfl, ?_⟩
    cases hL : E0[z]? with
    | none => exact iteT (k1 hL H1 e1)
    | some L =>
      have k2' := k2 L hL
      have hp1 := e1 _ _ hp
      have hR1 := hR.ext e1
      refine iteF ⟨_, rfl, p, ds, (z : Int), rfl, hR1, hsm, fun B order H2 e2 hBn hup hmem hB => ?_⟩
      refine ⟨_, rfl, p, A.Race, dx, _, _, rfl, e2 _ _ hp1, T.Race.cl, T.r_silent, rfl, _, _, rfl, rfl, (z : Int) + 1, rfl, B, _, rfl, SqL.of hB, fun G hG => ?_⟩
      have hcut : cutV ((bE ds order).map nI) none (some ((z : Int) + 1)) = ((bE ds order).take (z + 1)).map nI := by
        show ((((bE ds order).map nI)).drop 0).take ((if (z : Int) + 1 < 0 then ((z : Int) + 1 + (((bE ds order).map nI).length : Int)).toNat else min (((z : Int) + 1).toNat) ((bE ds order).map nI).length) - 0) = _
        rw [if_neg (by omega), List.drop_zero, List.map_take, show ((z : Int) + 1).toNat = z + 1 by omega, Nat.sub_zero]
        by_cases hl : z + 1 ≤ ((bE ds order).map nI).length
        · rw [Nat.min_eq_left hl]
        · rw [Nat.min_eq_right (by omega), List.take_length, List.take_of_length_le (by omega)]
      have hzl : z < (bE ds order).length := by
        rw [bE_len hup hmem]
        have h1 := (List.getElem?_eq_some_iff.mp hL).1
        rw [hperm.length_eq] at h1
        unfold ends at h1
        rw [List.length_map] at h1
        exact h1
      have hwz : (bE ds order)[z]? = some (bE ds order)[z] := List.getElem?_eq_getElem hzl
      generalize (bE ds order)[z] = wn at hwz
      obtain ⟨f1, hcan, hfirst⟩ := bE_latest hf hup hmem hperm hsrt hL rfl hwz
      have e3 := Ext.upd (o := .lst (cutV ((bE ds order).map nI) none (some ((z : Int) + 1)))) hG
      have hG3 : upd H2 G (.lst (cutV ((bE ds order).map nI) none (some ((z : Int) + 1)))) G = some (.lst (((bE ds order).take (z + 1)).map nI)) := by rw [upd_same, hcut]
      generalize upd H2 G (.lst (cutV ((bE ds order).map nI) none (some ((z : Int) + 1)))) = H3 at e3 hG3 ⊢
      have hnd : ((bE ds order).take (z + 1)).Nodup := (bE_nodup hup).sublist (List.take_sublist _ _)
      have hlen : ((bE ds order).take (z + 1)).length = z + 1 := by
        rw [List.length_take]
        omega
      have hlast : ((bE ds order).take (z + 1))[z]? = some wn := by
        rw [List.getElem?_take_of_lt (by omega)]
        exact hwz
      have hml : ((bE ds order).take (z + 1)).length ≤ 60 := by
        have := bE_len hup hmem
        have h2 := plan_len ds
        rw [List.length_take]
        omega
      generalize (bE ds order).take (z + 1) = m at hG3 hfirst hnd hlen hlast hml
      have e13 := (e1.trans e2).trans e3
      have hwd : wn < ds.length := has_lt (can_iff.mp hcan).1
      have hat : atI (m.map nI) (-1) = some (nI wn) := by
        have hl2 : (m.map nI).length = z + 1 := by rw [List.length_map]; exact hlen
        have hx : ixN (m.map nI).length (-1) = some z := by
          unfold ixN
          rw [hl2, if_neg (by omega), if_pos (by omega)]
          exact congrArg some (by omega)
        unfold atI
        rw [hx]
        show (m.map nI)[z]? = _
        rw [List.getElem?_map, hlast]
        rfl
      refine ⟨_, rfl, _, rfl, 1, rfl, G, _, -1, nI wn, rfl, rfl, SqL.of hG3, hat, _, rfl, p, ds, (z : Int), wn, L, rfl, hR.ext e13, by omega, hwd, (fun h => by rw [hcan] at h; cases h), fun _ v H4 e4 hv => ?_⟩
      have hG4 := e4 _ _ hG3
      refine ⟨_, rfl, G, rfl, ⟨_, SqL.of hG4⟩, fun C hC => ?_⟩
      refine lc_list (xs := m.map nI) (fun i H5 => Ext H4 H5 ∧ H5 C = some (.lst ((((m.take i).map fun j : Nat => (j : Int))).map V.int))) ⟨Ext.upd hC, upd_same⟩ (fun i H5 _ pv => SqL.of (pv.1 _ _ hG4)) (fun i x H5 hx pv => ?_) (fun H5 pv => ?_)
      · obtain ⟨e5, hC5⟩ := pv
        rw [List.getElem?_map] at hx
        obtain ⟨j, hj, rfl⟩ := Option.map_eq_some_iff.mp hx
        refine ⟨rfl, _, rfl, .inl ⟨_, rfl, ?_⟩⟩
        refine ⟨_, hC5, small_sz ?_, ext_mut e5 hC, ?_⟩
        · rw [List.length_map, List.length_map, List.length_take]
          omega
        · rw [upd_same, take_snoc hj, List.map_append, List.map_append]
          rfl
      · obtain ⟨e5, hC5⟩ := pv
        rw [List.length_map, List.take_length] at hC5
        refine ⟨C, _, rfl, SqL.of hC5, fun ns q hp2 hs2 hq => ?_⟩
        obtain ⟨l, hl1, hl2, hl3, hl4⟩ := nat_perm hp2 hs2 hnd
        rw [hl1]
        have e6 := Ext.upd (o := .lst (l.map nI)) hq
        refine ⟨q, _, rfl, .inl ⟨SqL.of upd_same, fun u hu => ⟨by show 2 ≤ sizeLine; decide, fun T2 hT2 => ?_⟩⟩⟩
        have e7 := Ext.upd (o := .tup (l.map nI)) hu
        have e8 := Ext.upd (o := .tup [v, .ref u]) hT2
        have e48 := ((e5.trans e6).trans e7).trans e8
        exact k2' wn T2 v u l _ hcan ((e13.trans e4).trans e48) upd_same (RnAt.k (Ext.kt e48) _ _ hv) (e8 _ _ upd_same) hl2 (by omega) fun j hj => hfirst j (hl4 j hj)
end
end K18

set_option Elab.async false
set_option maxRecDepth 100000
set_option maxHeartbeats 4000000
namespace K18
open PySem PySem.Spec PyProof.Rows L2
/-- a run that may be bent, or data that is no run at all -/
abbrev Rx := (Bool × List Eo) ⊕ PyData
def RxAt (K : PySem.W.Frag) (H : Hp) (v : V) : Rx → Prop
  | .inl ru => RuAt K H v ru ∧ ru.2.length ≤ 1000
  | .inr y => Dp K H v y ∧ isTupD y = false
theorem RxAt.ext {K : PySem.W.Frag} {H H' : Hp} {v : V} {rx : Rx} (h : RxAt K H v rx) (e : Ext H H') : RxAt K H' v rx := by
  cases rx with
  | inl ru => exact ⟨h.1.ext e, h.2⟩
  | inr y => exact ⟨dp_ext e _ _ h.1, h.2⟩
/-- nothing is wrong with it -/
def okX (ds : List Wd) (z : Int) : Rx → Bool
  | .inl ru => (dueR ds z ru).isNone
  | .inr _ => false
def rxE : Rx → List En
  | .inl ru => ru.2.map eoE
  | .inr _ => []
theorem ok_rn {K : PySem.W.Frag} {H : Hp} {v : V} {ds : List Wd} {z : Int} {rx : Rx} (h : RxAt K H v rx) (ho : okX ds z rx = true) : RnAt H v (rxE rx) ∧ Run ds (rxE rx) ∧ (qn ds (rxE rx) : Int) ≤ z := by
  cases rx with
  | inl ru => exact right_due h.1 (Option.isNone_iff_eq_none.mp ho)
  | inr y => cases ho
/-- the winner of the run that v is, when it ends at t -/
def endV (ds : List Wd) (z t : Int) (rx : Rx) : Option Nat := if okX ds z rx = true then (match out ds (rxE rx) with | some (k, m) => if m = t then some k else none | none => none) else none
theorem end_no {ds : List Wd} {z t : Int} {rx : Rx} (h : okX ds z rx = false) : endV ds z t rx = none := if_neg (by rw [h]; decide)
theorem end_yes {ds : List Wd} {z t : Int} {rx : Rx} (h : okX ds z rx = true) : endV ds z t rx = (match out ds (rxE rx) with | some (k, m) => if m = t then some k else none | none => none) := if_pos h
section
variable {P : Program} {w : World} {K : PySem.W.Frag} {mg : Str → Option Value} {base : Heap} {A : Ad}
def spWrongX (K : PySem.W.Frag) (A : Ad) : Sp := fun vs H Q _ => ∃ (p : Addr) (ds : List Wd) (z : Int) (v : V) (rx : Rx), vs = [.ref p, v] ∧ RaceD K A H p ds z ∧ ds.length ≤ 1000 ∧ RxAt K H v rx ∧ ∀ t xs H', Ext H H' → H' t = some (.tup xs) → decide (xs = []) = okX ds z rx → Q (.ref t) H'
def spWrongN (K : PySem.W.Frag) (A : Ad) : Sp := fun vs H Q _ => ∃ (p : Addr) (ds : List Wd) (z : Int) (v : V) (y : PyData), vs = [.ref p, v] ∧ RaceD K A H p ds z ∧ Dp K H v y ∧ isTupD y = false ∧ ∀ t H', Ext H H' → H' t = some (.tup [.non]) → Q (.ref t) H'
theorem ok_wrongN {f : Addr} {fd : FuncData} (F : Fun K "wrong_of" "wrong_of" s_wrong_of f fd) (T : Txt K mg A) (O_greater : Own P w K mg base CX0 "greater" 1 pm_greater spGreater) (O_fits : Own P w K mg base CX0 "fits" 3 pm_fits (spFits K A)) (O_Race_planned : OwnM P w K mg base CX0 A.Race "planned" 2 pm_Race_planned (spPlanned K A)) : FnOk P w K mg base CX0 4 f fd pm_wrong_of (spWrongN K A) := by
  refine F.ok sc_wrong_of (fun vs H Q E h => ?_) (fun cdv A' outer s H vs Q E hr h => ?_)
  · obtain ⟨_, _, _, _, _, rfl, _⟩ := h
    rfl
  · obtain ⟨p, ds, z, v, y, rfl, hR, hy, hn, k⟩ := h
    refine ⟨_, pss_cons (ps_if (pt_not (pt_val (pe_callB call_isi (by rfl) T.n_isinstance (by decide +kernel) (pa_cons (pv 1) (pa_cons (pe_bltn (v := .ty "tuple") (by rfl) T.n_tuple (by decide +kernel) rfl) pa_nil))))) (pss_one (ps_ret (pe_tup (pa_cons (pe_non) pa_nil)))) (pss_nil))
      (pss_cons (ps_for PassesOwn.never rfl (pi_range1 rfl T.n_range (pa_cons (pe_own O_greater (hr.mono (by decide)) pass0 (pa_cons (pe_callB call_len_seq (by rfl) T.n_len (by decide +kernel) (pa_cons (pv 1) pa_nil)) (pa_cons (pe_callB call_len_seq (by rfl) T.n_len (by decide +kernel) (pa_cons (pe_fld (pv 0) rfl) pa_nil)) pa_nil))) pa_nil)) (pg_name (i := 2) sc_wrong_of.nd rfl (Or.inl rfl)) (pss_one (ps_if (PW.pt (pw_or (pt_cmpR op_ge (pv 2) (pe_callB call_len_seq (by rfl) T.n_len (by decide +kernel) (pa_cons (pv 1) pa_nil)) (nomark _)) (pw_or (pt_cmpR op_ge (pv 2) (pe_callB call_len_seq (by rfl) T.n_len (by decide +kernel) (pa_cons (pe_fld (pv 0) rfl) pa_nil)) (nomark _)) (pw_or1 (pt_not (pt_val (pe_own O_fits (hr.mono (by decide)) pass0 (pa_cons (pe_ix ix_tup (pe_fld (pv 0) rfl) (pv 2) (fun _ _ => rfl)) (pa_cons (pe_ix ix_tup (pv 1) (pv 2) (fun _ _ => rfl)) pa_nil))))))))) (pss_one (ps_ret (pe_tup (pa_cons (pv 2) pa_nil)))) (pss_nil))))
      (pss_cons (ps_setLc (i := 3) (own := [("way", 4)]) (g := gName 4) (by rfl) sc_wrong_of.nd rfl rfl (sw_true rfl rfl rfl (by decide +kernel)) (pi_tup (pe_ownM0 O_Race_planned (pv 0) T.Race.cl (hr.mono (by decide)) pass0)) (blkOk_by (own := [("way", 4)]) (N := nm_wrong_of) (sc := defScope s_wrong_of) (by decide +kernel)) (fun _ _ _ _ _ => pg_name (i := 4) sc_wrong_of.nd rfl (Or.inl rfl)) (fun s1 H1 C1 cl fp => pts_one (pt_cmpR op_isN (pe_ix (ix_tupK (K := K) rfl) (pv 1) (pv 4) (fun _ _ => rfl)) (pe_non) (nomark _))) (fun s1 H1 C1 cl fp => pv 4))
      (pss_one (ps_ret (pe_ifExp (pt_cmpR op_gt (pe_callB call_len_seq (by rfl) T.n_len (by decide +kernel) (pa_cons (pv 3) pa_nil)) (pe_fld (pv 0) rfl) (nomark _)) (pe_tup (pa_cons (pe_non) pa_nil)) (pe_tup (pa_nil))))))), ?_⟩
    have hd := dp_ty (K := K) hy
    refine ⟨_, rfl, v, .ty "tuple", _, .type "tuple", isTupD y, rfl, .ty _, hd, kd_tup, _, rfl, ?_⟩
    rw [hn]
    exact iteT ⟨by show 1 ≤ sizeLine; decide, fun t ht => k t _ (Ext.upd ht) upd_same⟩
theorem ok_wrongX {f : Addr} {fd : FuncData} (F : Fun K "wrong_of" "wrong_of" s_wrong_of f fd) (T : Txt K mg A) (O_greater : Own P w K mg base CX0 "greater" 1 pm_greater spGreater) (O_fits : Own P w K mg base CX0 "fits" 3 pm_fits (spFits K A)) (O_Race_planned : OwnM P w K mg base CX0 A.Race "planned" 2 pm_Race_planned (spPlanned K A)) : FnOk P w K mg base CX0 4 f fd pm_wrong_of (spWrongX K A) := by
  have G1 := ok_wrong F T O_greater O_fits O_Race_planned
  have G2 := ok_wrongN F T O_greater O_fits O_Race_planned
  have go : ∀ vs H Q E, spWrongX K A vs H Q E → spWrong K A vs H Q E ∨ spWrongN K A vs H Q E := fun vs H Q E h => by
    obtain ⟨p, ds, z, v, rx, h1, hR, hsm, hx, k⟩ := h
    cases rx with
    | inl ru =>
      refine .inl ⟨p, ds, z, v, ru, h1, hR, hsm, hx.1, hx.2, fun t H' e ht => k t _ H' e ht ?_⟩
      show _ = (dueR ds z ru).isNone
      cases dueR ds z ru with
      | none => rfl
      | some o => cases o <;> rfl
    | inr y => exact .inr ⟨p, ds, z, v, y, h1, hR, hx.1, hx.2, fun t H' e ht => k t _ H' e ht rfl⟩
  exact ⟨fun vs H Q E h => (go vs H Q E h).elim (G1.len vs H Q E) (G2.len vs H Q E), fun A outer s H args us vs Q E hr he hb hv hs => (go vs H Q E hs).elim (G1.run A outer s H args us vs Q E hr he hb hv) (G2.run A outer s H args us vs Q E hr he hb hv)⟩
def spEnds (K : PySem.W.Frag) (A : Ad) : Sp := fun vs H Q _ => ∃ (p : Addr) (ds : List Wd) (z t : Int) (v : V) (rx : Rx), vs = [.ref p, .int t, v] ∧ RaceD K A H p ds z ∧ ds.length ≤ 1000 ∧ RxAt K H v rx ∧ (endV ds z t rx = none → ∀ H', Ext H H' → Q .non H') ∧ ∀ k, endV ds z t rx = some k → ∀ q S H', Ext H H' → OutD A H' q (some (k, t)) S → Q (.ref q) H'
theorem ok_ends {f : Addr} {fd : FuncData} (F : Fun K "ends_at" "ends_at" s_ends_at f fd) (T : Txt K mg A) (O_is_integer : Own P w K mg base CX0 "is_integer" 1 pm_is_integer (spInteger K)) (O_wrong_of : Own P w K mg base CX0 "wrong_of" 4 pm_wrong_of (spWrongX K A)) (O_outcome_of : Own P w K mg base CX0 "outcome_of" 4 pm_outcome_of (spOutOf K A)) : FnOk P w K mg base CX0 5 f fd pm_ends_at (spEnds K A) := by
  refine F.ok sc_ends_at (fun vs H Q E h => ?_) (fun cdv A' outer s H vs Q E hr h => ?_)
  · obtain ⟨_, _, _, _, _, _, rfl, _⟩ := h
    rfl
  · obtain ⟨p, ds, z, t, v, rx, rfl, hR, hsm, hx, kN, kS⟩ := h
    refine ⟨_, pss_cons (ps_if (PW.pt (pw_or (pt_not (pt_val (pe_own O_is_integer (hr.mono (by decide)) pass0 (pa_cons (pv 1) pa_nil)))) (pw_or1 (pt_truth (pe_own O_wrong_of (hr.mono (by decide)) pass0 (pa_cons (pv 0) (pa_cons (pv 2) pa_nil))) (by intro _; rfl))))) (pss_one (ps_ret (pe_non))) (pss_nil))
      (pss_cons (ps_set (i := 3) sc_ends_at.nd rfl (Or.inl rfl) (pe_own O_outcome_of (hr.mono (by decide)) pass0 (pa_cons (pv 0) (pa_cons (pv 2) pa_nil))))
      (pss_one (ps_ret (pe_ifExp (pt_cmpR op_eq (pe_fld (pv 3) rfl) (pv 1) (nomark _)) (pv 3) (pe_non))))), ?_⟩
    refine ⟨_, rfl, .int t, .int t, rfl, .int t, _, rfl, iteF ⟨_, rfl, _, rfl, p, ds, z, v, rx, rfl, hR, hsm, hx, fun u xs H1 e1 hu hxs => ⟨_, .inr (.inl ⟨xs, SqT.of hu, rfl⟩), ?_⟩⟩⟩
    cases ho : okX ds z rx with
    | false =>
      rw [ho, decide_eq_false_iff_not] at hxs
      cases xs with
      | nil => exact absurd rfl hxs
      | cons x xs => exact iteT (kN (end_no ho) H1 e1)
    | true =>
      rw [ho, decide_eq_true_eq] at hxs
      subst hxs
      obtain ⟨r1, r2, r3⟩ := ok_rn hx ho
      rw [end_yes ho] at kN kS
      refine iteF ⟨_, rfl, _, rfl, p, ds, z, v, rxE rx, rfl, hR.ext e1, hsm, RnAt.k (Ext.kt e1) _ _ r1, r2, fun q H2 e2 hO => ?_⟩
      have e12 := e1.trans e2
      obtain ⟨dx, T2, x, y, h1, h2, h3⟩ := id hO
      cases hm : out ds (rxE rx) with
      | none =>
        rw [hm] at h1 kN
        cases h1
        exact ⟨_, rfl, q, A.Outcome, dx, _, _, rfl, h2, T.Outcome.cl, T.o_moment, rfl, _, rfl, rfl, _, rfl, iteF (kN rfl H2 e12)⟩
      | some km =>
        obtain ⟨kk, m⟩ := km
        rw [hm] at h1 kN kS hO
        cases h1
        dsimp only at kN kS
        refine ⟨_, rfl, q, A.Outcome, dx, _, _, rfl, h2, T.Outcome.cl, T.o_moment, rfl, _, rfl, rfl, _, rfl, ?_⟩
        rw [dvi]
        by_cases hmt : m = t
        · subst hmt
          rw [decide_eq_true rfl]
          exact iteT ⟨_, rfl, kS kk (if_pos rfl) q _ H2 e12 hO⟩
        · rw [decide_eq_false hmt]
          exact iteF (kN (if_neg hmt) H2 e12)
def spShW (K : PySem.W.Frag) (A : Ad) : Sp := fun vs H Q _ => ∃ (p : Addr) (ds : List Wd) (z t : Int) (k : Nat) (v : V) (rx : Rx), vs = [.ref p, nI k, .int t, v] ∧ RaceD K A H p ds z ∧ ds.length ≤ 1000 ∧ k < ds.length ∧ RxAt K H v rx ∧ ∀ H', Ext H H' → Q (.bl (decide (endV ds z t rx = some k))) H'
theorem ok_shW {f : Addr} {fd : FuncData} (F : Fun K "shows_win" "shows_win" s_shows_win f fd) (T : Txt K mg A) (O_is_index : Own P w K mg base CX0 "is_index" 3 pm_is_index (spIndex K)) (O_ends_at : Own P w K mg base CX0 "ends_at" 5 pm_ends_at (spEnds K A)) : FnOk P w K mg base CX0 6 f fd pm_shows_win (spShW K A) := by
  refine F.ok sc_shows_win (fun vs H Q E h => ?_) (fun cdv A' outer s H vs Q E hr h => ?_)
  · obtain ⟨_, _, _, _, _, _, _, rfl, _⟩ := h
    rfl
  · obtain ⟨p, ds, z, t, k, v, rx, rfl, hR, hsm, hk, hx, q⟩ := h
    refine ⟨_, pss_cons (ps_if (pt_not (pt_val (pe_own O_is_index (hr.mono (by decide)) pass0 (pa_cons (pv 1) (pa_cons (pe_callB call_len_seq (by rfl) T.n_len (by decide +kernel) (pa_cons (pe_fld (pv 0) rfl) pa_nil)) pa_nil))))) (pss_one (ps_ret (pe_bl))) (pss_nil))
      (pss_cons (ps_set (i := 4) sc_shows_win.nd rfl (Or.inl rfl) (pe_own O_ends_at (hr.mono (by decide)) pass0 (pa_cons (pv 0) (pa_cons (pv 2) (pa_cons (pv 3) pa_nil)))))
      (pss_one (ps_ret (pe_and (pe_cmpR op_notN (pv 4) (pe_non) (nomark _)) (pe_one (pe_cmpR op_eq (pe_fld (pv 4) rfl) (pv 1) (nomark _))))))), ?_⟩
    obtain ⟨dx, T1, ws, hp, hT, hws⟩ := id hR
    refine ⟨_, rfl, _, rfl, p, A.Race, dx, _, _, rfl, hp, T.Race.cl, T.r_ways, rfl, T1, ws, rfl, .inr hT, ?_⟩
    rw [hws.1]
    refine ⟨_, .int (k : Int), _, rfl, .int _, _, rfl, ?_⟩
    rw [bet_in hk]
    refine iteF ⟨_, rfl, _, rfl, _, rfl, p, ds, z, t, v, rx, rfl, hR, hsm, hx, fun hn H1 e1 => ?_, fun k' hs q' S H1 e1 hO => ?_⟩
    · have z0 := q H1 e1
      rw [hn] at z0
      exact ⟨_, rfl, rfl, _, rfl, iteF z0⟩
    · have z0 := q H1 e1
      rw [hs] at z0
      obtain ⟨dq, T2, x, y, h1, h2, h3⟩ := id hO
      cases h1
      refine ⟨_, rfl, rfl, _, rfl, iteT ⟨_, rfl, q', A.Outcome, dq, _, _, rfl, h2, T.Outcome.cl, T.o_winner, rfl, _, rfl, rfl, ?_⟩⟩
      have : decide (nI k' = nI k) = decide (some k' = some k) := by
        rw [show nI k' = V.int (k' : Int) from rfl, show nI k = V.int (k : Int) from rfl, dvi]
        exact decide_eq_decide.mpr ⟨fun h => by rw [show k' = k by omega], fun h => by injection h with h; omega⟩
      rw [this]
      exact z0
end
end K18

set_option Elab.async false
set_option maxRecDepth 100000
set_option maxHeartbeats 4000000
namespace K18
open PySem PySem.Spec PyProof.Rows L2
def nevV (ds : List Wd) (z : Nat) (w : Nat) (t : Int) (lo : Lo) : Bool := lotV ds.length lo && (if inWb ds w t = true then decide (lo.2.length = z + 1) && lo.2.all (early ds w t) else decide (lo.2.length = 0))
def latV (ds : List Wd) (z : Nat) (t : Int) (rx : Rx) (lo : Lo) : Bool := (endV ds z t rx).isSome && (lotV ds.length lo && ((decide (lo.2.length = z + 1) && lo.2.all (has ds)) && lo.2.all fun j => decide (fin ds j ≤ t)))
theorem lot_at {K : PySem.W.Frag} {H : Hp} {v : V} {lo : Lo} {n : Nat} (h : LoAt H v lo) (hl : lotV n lo = true) : (∃ t, v = .ref t ∧ H t = some (.tup (lo.2.map nI))) ∧ lo.2.all (fun x => decide (x < n)) = true ∧ upB lo.2 = true := by
  obtain ⟨k, ns⟩ := lo
  unfold lotV at hl
  rw [Bool.and_eq_true, Bool.and_eq_true, decide_eq_true_eq] at hl
  obtain ⟨h0, h1, h2⟩ := hl
  cases h0
  exact ⟨h, h1, h2⟩
section
variable {P : Program} {w : World} {K : PySem.W.Frag} {mg : Str → Option Value} {base : Heap} {A : Ad}
def spShN (K : PySem.W.Frag) (A : Ad) : Sp := fun vs H Q _ => ∃ (p : Addr) (ds : List Wd) (z : Nat) (t : Int) (k : Nat) (v : V) (lo : Lo), vs = [.ref p, nI k, .int t, v] ∧ RaceD K A H p ds (z : Int) ∧ ds.length ≤ 1000 ∧ k < ds.length ∧ LoAt H v lo ∧ lo.2.length ≤ 1000 ∧ ∀ H', Ext H H' → Q (.bl (nevV ds z k t lo)) H'
theorem ok_shN {f : Addr} {fd : FuncData} (F : Fun K "shows_never" "shows_never" s_shows_never f fd) (T : Txt K mg A) (O_is_index : Own P w K mg base CX0 "is_index" 3 pm_is_index (spIndex K)) (O_is_integer : Own P w K mg base CX0 "is_integer" 1 pm_is_integer (spInteger K)) (O_is_lot : Own P w K mg base CX0 "is_lot" 5 pm_is_lot (spLot K))
    (O_in_window : Own P w K mg base CX0 "in_window" 2 pm_in_window (spInW K A)) (O_Race_hurried : OwnM P w K mg base (L2.CX P w) A.Race "hurried" 7 pm_Race_hurried (spHur K A)) : FnOk P w K mg base CX0 8 f fd pm_shows_never (spShN K A) := by
  refine F.ok sc_shows_never (fun vs H Q E h => ?_) (fun cdv A' outer s H vs Q E hr h => ?_)
  · obtain ⟨_, _, _, _, _, _, _, rfl, _⟩ := h
    rfl
  · obtain ⟨p, ds, z, t, k, v, lo, rfl, hR, hsm, hk, hlo, hsl, q⟩ := h
    refine ⟨_, pss_cons (ps_if (PW.pt (pw_or (pt_not (pt_val (pe_own O_is_index (hr.mono (by decide)) pass0 (pa_cons (pv 1) (pa_cons (pe_callB call_len_seq (by rfl) T.n_len (by decide +kernel) (pa_cons (pe_fld (pv 0) rfl) pa_nil)) pa_nil))))) (pw_or (pt_not (pt_val (pe_own O_is_integer (hr.mono (by decide)) pass0 (pa_cons (pv 2) pa_nil)))) (pw_or1 (pt_not (pt_val (pe_own O_is_lot (hr.mono (by decide)) pass0 (pa_cons (pv 3) (pa_cons (pe_callB call_len_seq (by rfl) T.n_len (by decide +kernel) (pa_cons (pe_fld (pv 0) rfl) pa_nil)) pa_nil))))))))) (pss_one (ps_ret (pe_bl))) (pss_nil))
      (pss_cons (ps_if (pt_not (pt_val (pe_own O_in_window (hr.mono (by decide)) pass0 (pa_cons (pv 0) (pa_cons (pv 1) (pa_cons (pv 2) pa_nil)))))) (pss_one (ps_ret (pe_cmpR op_eq (pe_callB call_len_seq (by rfl) T.n_len (by decide +kernel) (pa_cons (pv 3) pa_nil)) (pe_int) (nomark _)))) (pss_nil))
      (pss_cons (ps_set (i := 4) sc_shows_never.nd rfl (Or.inr rfl) (pe_ownM O_Race_hurried (pv 0) T.Race.cl (hr.mono (by decide)) passL (pa_cons (pv 1) (pa_cons (pv 2) pa_nil))))
      (pss_one (ps_ret (pe_and (pe_cmpR op_eq (pe_callB call_len_seq (by rfl) T.n_len (by decide +kernel) (pa_cons (pv 3) pa_nil)) (pe_op op_add (pe_fld (pv 0) rfl) (pe_int)) (nomark _)) (pe_one (pe_callB (cr_all rfl) (by rfl) T.n_all (by decide +kernel) (pa_cons (pe_lc (own := [("other", 5)]) (g := gName 5) (by rfl) sc_shows_never.nd (pi_tup (pv 3)) (blkOk_by (own := [("other", 5)]) (N := nm_shows_never) (sc := defScope s_shows_never) (by decide +kernel)) (fun _ _ _ _ _ => pg_name (i := 5) sc_shows_never.nd rfl (Or.inl rfl)) (fun s1 H1 C1 cl fp => pts_nil) (fun s1 H1 C1 cl fp => pe_cmpR (op_in_seqK (K := K) rfl) (pv 5) (pv 4) (by with_unfolding_all rfl))) pa_nil)))))))), ?_⟩
    obtain ⟨dx, T1, ws, hp, hT, hws⟩ := id hR
    refine ⟨_, rfl, _, rfl, p, A.Race, dx, _, _, rfl, hp, T.Race.cl, T.r_ways, rfl, T1, ws, rfl, .inr hT, ?_⟩
    rw [hws.1]
    refine ⟨_, .int (k : Int), _, rfl, .int _, _, rfl, ?_⟩
    rw [bet_in hk]
    refine iteF ⟨_, rfl, .int t, .int t, rfl, .int t, _, rfl, iteF ?_⟩
    refine ⟨_, rfl, _, rfl, p, A.Race, dx, _, _, rfl, hp, T.Race.cl, T.r_ways, rfl, T1, ws, rfl, .inr hT, ?_⟩
    rw [hws.1]
    refine ⟨v, lo, ds.length, rfl, hlo, hsl, fun H1 e1 => ⟨_, rfl, ?_⟩⟩
    cases hl : lotV ds.length lo with
    | false =>
      have z0 := q H1 e1
      unfold nevV at z0
      rw [hl] at z0
      exact iteT z0
    | true =>
      obtain ⟨⟨u, rfl, hu⟩, _, _⟩ := lot_at (K := K) hlo hl
      unfold nevV at q
      rw [hl] at q
      simp only [Bool.true_and] at q
      obtain ⟨lk, ns⟩ := lo
      dsimp only at hu q hsl
      have hu1 := e1 _ _ hu
      refine iteF ⟨_, rfl, _, rfl, _, rfl, p, ds, (z : Int), k, t, rfl, hR.ext e1, hsm, hk, fun H2 e2 => ⟨_, rfl, ?_⟩⟩
      have hu2 := e2 _ _ hu1
      have e12 := e1.trans e2
      have hp2 := e12 _ _ hp
      have hR2 := hR.ext e12
      cases hin : inWb ds k t with
      | false =>
        rw [hin, if_neg (by decide)] at q
        refine iteT ⟨_, rfl, u, _, rfl, .inr (SqT.of hu2), rfl, ?_⟩
        rw [List.length_map, dvi]
        have z0 := q H2 e12
        rw [show decide (((ns.length : Nat) : Int) = 0) = decide (ns.length = 0) from decide_eq_decide.mpr ⟨fun h => by omega, fun h => by omega⟩]
        exact z0
      | true =>
        rw [hin, if_pos rfl] at q
        refine iteF ⟨_, rfl, p, dx, _, rfl, hp2, rfl, _, rfl, _, rfl, p, ds, (z : Int), _, .int (k : Int), t, rfl, hR2, hsm, .int _, (fun h => by rw [bet_in hk] at h; cases h), fun w' hw' _ tq H3 e3 htq => ?_⟩
        obtain rfl : k = w' := by injection hw' with hw'; omega
        have hu3 := e3 _ _ hu2
        have hp3 := e3 _ _ hp2
        have e13 := e12.trans e3
        refine ⟨_, rfl, u, _, rfl, .inr (SqT.of hu3), _, rfl, p, A.Race, dx, _, _, rfl, hp3, T.Race.cl, T.r_silent, rfl, _, _, rfl, rfl, rfl, _, rfl, ?_⟩
        rw [List.length_map, dvi, show decide (((ns.length : Nat) : Int) = (z : Int) + 1) = decide (ns.length = z + 1) from decide_eq_decide.mpr ⟨fun h => by omega, fun h => by omega⟩]
        cases hle : decide (ns.length = z + 1) with
        | false =>
          rw [hle] at q
          exact iteF (q H3 e13)
        | true =>
          rw [hle, Bool.true_and] at q
          refine iteT ⟨_, rfl, u, rfl, ⟨_, SqT.of hu3⟩, fun C hC => ?_⟩
          refine lc_it (walk_tup (xs := ns.map nI)) (fun i H' => Ext H3 H' ∧ H' C = some (.lst (((ns.take i).map (early ds k t)).map V.bl))) ⟨Ext.upd hC, upd_same⟩ (fun i H' _ pv => SqT.of (pv.1 _ _ hu3)) (fun i x H' H2 hi pv hy => ?_) (fun H' pv => ?_)
          · obtain ⟨e4, hC4⟩ := pv
            obtain ⟨rfl, hx⟩ := hy
            rw [List.getElem?_map] at hx
            obtain ⟨j, hj, rfl⟩ := Option.map_eq_some_iff.mp hx
            refine ⟨rfl, _, rfl, _, rfl, tq, _, rfl, .inr (SqT.of (e4 _ _ htq)), rfl, flat_nI _, ?_⟩
            rw [show inV (nI j) ((hurs ds k t).map nI) = decide (j ∈ hurs ds k t) from inV_nI j _]
            have hmem : decide (j ∈ hurs ds k t) = early ds k t j := by
              unfold hurs
              rw [Bool.eq_iff_iff, decide_eq_true_eq, List.mem_filter, List.mem_range]
              exact ⟨fun h => h.2, fun h => ⟨has_lt (early_iff.mp h).1, h⟩⟩
            rw [hmem]
            refine ⟨_, hC4, small_sz ?_, ext_mut e4 hC, ?_⟩
            · rw [List.length_map, List.length_map, List.length_take]
              omega
            · rw [upd_same, take_snoc hj, List.map_append, List.map_append]
              rfl
          · obtain ⟨e4, hC4⟩ := pv
            rw [List.length_map, List.take_length] at hC4
            refine ⟨C, _, rfl, SqL.of hC4, ?_⟩
            rw [List.all_map]
            exact q H' (e13.trans e4)
end
end K18

set_option Elab.async false
set_option maxRecDepth 100000
set_option maxHeartbeats 4000000
namespace K18
open PySem PySem.Spec PyProof.Rows L2
section
variable {P : Program} {w : World} {K : PySem.W.Frag} {mg : Str → Option Value} {base : Heap} {A : Ad}
def spShL (K : PySem.W.Frag) (A : Ad) : Sp := fun vs H Q _ => ∃ (p : Addr) (ds : List Wd) (z : Nat) (t : Int) (v v2 : V) (rx : Rx) (lo : Lo), vs = [.ref p, .int t, v, v2] ∧ RaceD K A H p ds (z : Int) ∧ ds.length ≤ 1000 ∧ RxAt K H v rx ∧ LoAt H v2 lo ∧ lo.2.length ≤ 1000 ∧ ∀ H', Ext H H' → Q (.bl (latV ds z t rx lo)) H'
theorem ok_shL {f : Addr} {fd : FuncData} (F : Fun K "shows_latest" "shows_latest" s_shows_latest f fd) (T : Txt K mg A) (O_ends_at : Own P w K mg base CX0 "ends_at" 5 pm_ends_at (spEnds K A)) (O_is_lot : Own P w K mg base CX0 "is_lot" 5 pm_is_lot (spLot K))
    (O_Race_planned : OwnM P w K mg base CX0 A.Race "planned" 2 pm_Race_planned (spPlanned K A)) (O_Way_window : OwnM P w K mg base CX0 A.Way "window" 1 pm_Way_window (spWindow K A)) : FnOk P w K mg base CX0 6 f fd pm_shows_latest (spShL K A) := by
  refine F.ok sc_shows_latest (fun vs H Q E h => ?_) (fun cdv A' outer s H vs Q E hr h => ?_)
  · obtain ⟨_, _, _, _, _, _, _, _, rfl, _⟩ := h
    rfl
  · obtain ⟨p, ds, z, t, v, v2, rx, lo, rfl, hR, hsm, hx, hlo, hsl, q⟩ := h
    refine ⟨_, pss_cons (ps_if (PW.pt (pw_or (pt_cmpR op_isN (pe_own O_ends_at (hr.mono (by decide)) pass0 (pa_cons (pv 0) (pa_cons (pv 1) (pa_cons (pv 2) pa_nil)))) (pe_non) (nomark _)) (pw_or1 (pt_not (pt_val (pe_own O_is_lot (hr.mono (by decide)) pass0 (pa_cons (pv 3) (pa_cons (pe_callB call_len_seq (by rfl) T.n_len (by decide +kernel) (pa_cons (pe_fld (pv 0) rfl) pa_nil)) pa_nil)))))))) (pss_one (ps_ret (pe_bl))) (pss_nil))
      (pss_cons (ps_set (i := 4) sc_shows_latest.nd rfl (Or.inr rfl) (pe_ownM0 O_Race_planned (pv 0) T.Race.cl (hr.mono (by decide)) pass0))
      (pss_cons (ps_if (PW.pt (pw_or (pt_cmpR op_ne (pe_callB call_len_seq (by rfl) T.n_len (by decide +kernel) (pa_cons (pv 3) pa_nil)) (pe_op op_add (pe_fld (pv 0) rfl) (pe_int)) (nomark _)) (pw_or1 (pt_not (pt_val (pe_callB (cr_all rfl) (by rfl) T.n_all (by decide +kernel) (pa_cons (pe_lc (own := [("way", 5)]) (g := gName 5) (by rfl) sc_shows_latest.nd (pi_tup (pv 3)) (blkOk_by (own := [("way", 5)]) (N := nm_shows_latest) (sc := defScope s_shows_latest) (by decide +kernel)) (fun _ _ _ _ _ => pg_name (i := 5) sc_shows_latest.nd rfl (Or.inl rfl)) (fun s1 H1 C1 cl fp => pts_nil) (fun s1 H1 C1 cl fp => pe_cmpR (op_in_seqK (K := K) rfl) (pv 5) (pv 4) (by with_unfolding_all rfl))) pa_nil))))))) (pss_one (ps_ret (pe_bl))) (pss_nil))
      (pss_one (ps_ret (pe_callB (cr_all rfl) (by rfl) T.n_all (by decide +kernel) (pa_cons (pe_lc (own := [("way", 5)]) (g := gName 5) (by rfl) sc_shows_latest.nd (pi_tup (pv 3)) (blkOk_by (own := [("way", 5)]) (N := nm_shows_latest) (sc := defScope s_shows_latest) (by decide +kernel)) (fun _ _ _ _ _ => pg_name (i := 5) sc_shows_latest.nd rfl (Or.inl rfl)) (fun s1 H1 C1 cl fp => pts_nil) (fun s1 H1 C1 cl fp => pe_cmpR op_le (pe_ix (ix_tupK (K := K) rfl) (pe_ownM0 O_Way_window (pe_ix (ix_tupK (K := K) rfl) (pe_fldK (K := K) rfl (pv 0) rfl) (pv 5) (fun _ _ => rfl)) T.Way.cl (hr.mono (by decide)) pass0) (pe_int) (fun _ _ => rfl)) (pv 1) (nomark _))) pa_nil)))))), ?_⟩
    unfold latV at q
    obtain ⟨dx, T1, ws, hp, hT, hws⟩ := id hR
    refine ⟨_, rfl, _, rfl, _, rfl, p, ds, (z : Int), t, v, rx, rfl, hR, hsm, hx, fun hn H1 e1 => ?_, fun k' hs q' S H1 e1 hO => ?_⟩
    · have z0 := q H1 e1
      rw [hn] at z0
      exact ⟨rfl, _, rfl, iteT z0⟩
    · rw [hs] at q
      simp only [Option.isSome_some, Bool.true_and] at q
      have hp1 := e1 _ _ hp
      refine ⟨rfl, _, rfl, iteF ?_⟩
      refine ⟨_, rfl, _, rfl, p, A.Race, dx, _, _, rfl, hp1, T.Race.cl, T.r_ways, rfl, T1, ws, rfl, .inr (hT.ext e1), ?_⟩
      rw [hws.1]
      refine ⟨v2, lo, ds.length, rfl, hlo.ext e1, hsl, fun H2 e2 => ⟨_, rfl, ?_⟩⟩
      have e12 := e1.trans e2
      cases hl : lotV ds.length lo with
      | false =>
        have z0 := q H2 e12
        rw [hl] at z0
        exact iteT z0
      | true =>
        obtain ⟨⟨u, rfl, hu⟩, hin, _⟩ := lot_at (K := K) hlo hl
        rw [hl] at q
        simp only [Bool.true_and] at q
        obtain ⟨lk, ns⟩ := lo
        dsimp only at hu q hsl hin
        have hu2 := e12 _ _ hu
        have hp2 := e12 _ _ hp
        have hR2 := hR.ext e12
        refine iteF ⟨_, rfl, p, dx, _, rfl, hp2, rfl, p, ds, (z : Int), rfl, hR2, hsm, fun tp H3 e3 htp => ?_⟩
        rw [pl_plan] at htp
        have hu3 := e3 _ _ hu2
        have hp3 := e3 _ _ hp2
        have e13 := e12.trans e3
        refine ⟨_, rfl, u, _, rfl, .inr (SqT.of hu3), _, rfl, p, A.Race, dx, _, _, rfl, hp3, T.Race.cl, T.r_silent, rfl, _, _, rfl, rfl, rfl, _, rfl, ?_⟩
        rw [List.length_map, dvi, show decide (((ns.length : Nat) : Int) = (z : Int) + 1) = decide (ns.length = z + 1) from decide_eq_decide.mpr ⟨fun h => by omega, fun h => by omega⟩]
        cases hle : decide (ns.length = z + 1) with
        | false =>
          rw [hle] at q
          exact iteT (q H3 e13)
        | true =>
          rw [hle, Bool.true_and] at q
          refine iteF ⟨_, rfl, u, rfl, ⟨_, SqT.of hu3⟩, fun C hC => ?_⟩
          refine lc_it (walk_tup (xs := ns.map nI)) (fun i H' => Ext H3 H' ∧ H' C = some (.lst (((ns.take i).map (has ds)).map V.bl))) ⟨Ext.upd hC, upd_same⟩ (fun i H' _ pv => SqT.of (pv.1 _ _ hu3)) (fun i x H' H2 hi pv hy => ?_) (fun H' pv => ?_)
          · obtain ⟨e4, hC4⟩ := pv
            obtain ⟨rfl, hx⟩ := hy
            rw [List.getElem?_map] at hx
            obtain ⟨j, hj, rfl⟩ := Option.map_eq_some_iff.mp hx
            refine ⟨rfl, _, rfl, _, rfl, tp, _, rfl, .inr (SqT.of (e4 _ _ htp)), rfl, flat_nI _, ?_⟩
            rw [show inV (nI j) ((plan ds).map nI) = decide (j ∈ plan ds) from inV_nI j _]
            have hmem : decide (j ∈ plan ds) = has ds j := by
              rw [Bool.eq_iff_iff, decide_eq_true_eq, mem_plan]
            rw [hmem]
            refine ⟨_, hC4, small_sz ?_, ext_mut e4 hC, ?_⟩
            · rw [List.length_map, List.length_map, List.length_take]
              omega
            · rw [upd_same, take_snoc hj, List.map_append, List.map_append]
              rfl
          · obtain ⟨e4, hC4⟩ := pv
            rw [List.length_map, List.take_length] at hC4
            have e14 := e13.trans e4
            refine ⟨C, _, rfl, SqL.of hC4, _, rfl, ?_⟩
            rw [List.all_map, show (id ∘ has ds) = has ds from rfl]
            cases hal : ns.all (has ds) with
            | false =>
              rw [hal] at q
              exact iteT (q H' e14)
            | true =>
              rw [hal, Bool.true_and] at q
              have hu4 := e4 _ _ hu3
              have hR4 := hR.ext e14
              have hp4 := e14 _ _ hp
              refine iteF ⟨_, rfl, u, rfl, ⟨_, SqT.of hu4⟩, fun D hD => ?_⟩
              refine lc_it (walk_tup (xs := ns.map nI)) (fun i H5 => Ext H' H5 ∧ H5 D = some (.lst (((ns.take i).map fun j => decide (fin ds j ≤ t)).map V.bl))) ⟨Ext.upd hD, upd_same⟩ (fun i H5 _ pv => SqT.of (pv.1 _ _ hu4)) (fun i x H5 H6 hi pv hy => ?_) (fun H5 pv => ?_)
              · obtain ⟨e5, hD5⟩ := pv
                obtain ⟨rfl, hx⟩ := hy
                rw [List.getElem?_map] at hx
                obtain ⟨j, hj, rfl⟩ := Option.map_eq_some_iff.mp hx
                have hjm := List.mem_of_getElem? hj
                have hjn : j < ds.length := of_decide_eq_true (List.all_eq_true.mp hin j hjm)
                have hh : has ds j = true := List.all_eq_true.mp hal j hjm
                obtain ⟨dx', T1', ws', q4, dq, fs, dj, hp', hT', hx', hqi, hq, hql, hlk, a1, a2⟩ := way_at (hR4.ext e5) hjn
                refine ⟨rfl, _, rfl, p, A.Race, dx', _, _, rfl, hp', T.Race.cl, T.r_ways, rfl, _, rfl, T1', ws', (j : Int), .ref q4, rfl, rfl, hT', atI_nat hx', q4, dq, _, rfl, hqi, hlk, q4, dj.1, dj.2.1, dj.2.2, [], rfl, hq, (fun hn => by rw [a1, hn] at hh; cases hh), fun n hn tw H7 e7 htw => ⟨tw, _, 1, .int (n + 2 * dj.2.2), rfl, rfl, SqT.of htw, rfl, _, rfl, _, _, rfl, rfl, ?_⟩⟩
                rw [(a2 n hn).2]
                refine ⟨_, e7 _ _ hD5, small_sz ?_, ext_mut (e5.trans e7) hD, ?_⟩
                · rw [List.length_map, List.length_map, List.length_take]
                  omega
                · rw [upd_same, take_snoc hj, List.map_append, List.map_append]
                  rfl
              · obtain ⟨e5, hD5⟩ := pv
                rw [List.length_map, List.take_length] at hD5
                refine ⟨D, _, rfl, SqL.of hD5, ?_⟩
                rw [List.all_map]
                exact q H5 (e14.trans e5)
def spShU (K : PySem.W.Frag) (A : Ad) : Sp := fun vs H Q _ => ∃ (p : Addr) (ds : List Wd) (z : Int) (v : V) (rx : Rx), vs = [.ref p, v] ∧ RaceD K A H p ds z ∧ ds.length ≤ 1000 ∧ RxAt K H v rx ∧ ∀ H', Ext H H' → Q (.bl (okX ds z rx && (out ds (rxE rx)).isNone)) H'
theorem ok_shU {f : Addr} {fd : FuncData} (F : Fun K "shows_unanswered" "shows_unanswered" s_shows_unanswered f fd) (T : Txt K mg A) (O_wrong_of : Own P w K mg base CX0 "wrong_of" 4 pm_wrong_of (spWrongX K A)) (O_outcome_of : Own P w K mg base CX0 "outcome_of" 4 pm_outcome_of (spOutOf K A)) : FnOk P w K mg base CX0 5 f fd pm_shows_unanswered (spShU K A) := by
  refine F.ok sc_shows_unanswered (fun vs H Q E h => ?_) (fun cdv A' outer s H vs Q E hr h => ?_)
  · obtain ⟨_, _, _, _, _, rfl, _⟩ := h
    rfl
  · obtain ⟨p, ds, z, v, rx, rfl, hR, hsm, hx, q⟩ := h
    refine ⟨_, pss_one (ps_ret (pe_and (pe_notT (pe_own O_wrong_of (hr.mono (by decide)) pass0 (pa_cons (pv 0) (pa_cons (pv 1) pa_nil)))) (pe_one (pe_cmpR op_isN (pe_fld (pe_own O_outcome_of (hr.mono (by decide)) pass0 (pa_cons (pv 0) (pa_cons (pv 1) pa_nil))) rfl) (pe_non) (nomark _))))), ?_⟩
    refine ⟨_, rfl, _, rfl, p, ds, z, v, rx, rfl, hR, hsm, hx, fun u xs H1 e1 hu hxs => ⟨_, .inr (.inl ⟨xs, SqT.of hu, rfl⟩), ?_⟩⟩
    cases ho : okX ds z rx with
    | false =>
      rw [ho, decide_eq_false_iff_not] at hxs
      rw [ho] at q
      cases xs with
      | nil => exact absurd rfl hxs
      | cons x xs => exact ⟨_, rfl, iteF (q H1 e1)⟩
    | true =>
      rw [ho, decide_eq_true_eq] at hxs
      subst hxs
      rw [ho, Bool.true_and] at q
      obtain ⟨r1, r2, r3⟩ := ok_rn hx ho
      refine ⟨_, rfl, iteT ⟨_, rfl, _, rfl, p, ds, z, v, rxE rx, rfl, hR.ext e1, hsm, RnAt.k (Ext.kt e1) _ _ r1, r2, fun q2 H2 e2 hO => ?_⟩⟩
      obtain ⟨dx, T2, x, y, h1, h2, h3⟩ := id hO
      refine ⟨q2, A.Outcome, dx, _, _, rfl, h2, T.Outcome.cl, T.o_winner, rfl, rfl, ?_⟩
      have z0 := q H2 (e1.trans e2)
      have : decide (x = V.non) = (out ds (rxE rx)).isNone := by
        cases hm : out ds (rxE rx) with
        | none => rw [hm] at h1; cases h1; rfl
        | some km => rw [hm] at h1; cases h1; rfl
      rw [this]
      exact z0
end
end K18

set_option Elab.async false
set_option maxRecDepth 100000
set_option maxHeartbeats 4000000
namespace K18
open PySem PySem.Spec PyProof.Rows L2
section
variable {P : Program} {w : World} {K : PySem.W.Frag} {mg : Str → Option Value} {base : Heap} {A : Ad}
def spRunOf (K : PySem.W.Frag) (A : Ad) : Sp := fun vs H Q _ => ∃ (p : Addr) (ds : List Wd) (z : Int) (k : Nat) (t : Int), vs = [.ref p, nI k, .int t] ∧ RaceD K A H p ds z ∧ ds.length ≤ 1000 ∧ k < ds.length ∧ (can ds z k t = true → ∀ v H', Ext H H' → RnAt H' v (wrun ds k t) → Q v H') ∧
  (can ds z k t = false → ∀ u H', Ext H H' → H' u = some (.tup [.str (Str.ofString "cannot"), nI k]) → Q (.ref u) H')
theorem ok_runOf {f : Addr} {fd : FuncData} (F : Fun K "_law_run_of" "_law_run_of" s__law_run_of f fd) (T : Txt K mg A) (O_win_run : Own P w K mg base (L2.CX P w) "win_run" 10 pm_win_run (spWinRun K A)) : FnOk P w K mg base CX0 11 f fd pm__law_run_of (spRunOf K A) := by
  refine F.ok sc__law_run_of (fun vs H Q E h => ?_) (fun cdv A' outer s H vs Q E hr h => ?_)
  · obtain ⟨_, _, _, _, _, rfl, _⟩ := h
    rfl
  · obtain ⟨p, ds, z, k, t, rfl, hR, hsm, hk, k1, k2⟩ := h
    refine ⟨_, pss_one (ps_try_as (i := 3) (Wout := fun _ _ _ _ => False) rfl rfl sc__law_run_of.nd rfl rfl ⟨rfl, by decide, Or.inl T.CannotWin.gC⟩ takes0
        (fun W pn xe tk _ => pss_one (ps_ret (by exact (pe_ownS O_win_run (hr.mono (by decide)) tk (pa_cons (pv 0) (pa_cons (pv 1) (pa_cons (pv 2) pa_nil)))))))
        (fun a oe cls d pn hz hf => pss_one (ps_ret (pe_tup (pa_cons (pe_str) (pa_cons (by exact (pe_xf ⟨T.CannotWin.ec.hg, T.CannotWin.ec.hk, T.CannotWin.ec.hs, T.CannotWin.ec.hd⟩ T.CannotWin.noA hz hf (pv 3))) pa_nil)))))), ?_⟩
    refine ⟨_, rfl, _, rfl, _, rfl, p, ds, z, k, t, rfl, hR, hsm, hk, fun hc H1 e1 e he => ⟨true, T.x_cc, fun _ ae hae => ?_, fun z => nomatch z⟩, fun hc v H1 e1 hv => k1 hc v H1 e1 hv⟩
    have e2 := e1.trans (Ext.upd (o := .xd [("way", nI k)]) he)
    refine ⟨_, rfl, rfl, rfl, e, _, nI k, rfl, upd_same, rfl, by show 2 ≤ sizeLine; decide, fun u hu => ?_⟩
    exact k2 hc u _ (e2.trans (Ext.upd hu)) upd_same
def spHurL : Sp := fun vs H Q _ => ∃ (D : Addr) (ds : List Wd) (k : Nat) (t : Int), vs = [.ref D, nI k, .int t] ∧ Wl H D ds ∧ ds.length ≤ 1000 ∧ ∀ L H', Ext H H' → H L = none → H' L = some (.lst ((hurs ds k t).map nI)) → Q (.ref L) H'
theorem ok_hurL {f : Addr} {fd : FuncData} (F : Fun K "_law_hurried" "_law_hurried" s__law_hurried f fd) (T : Txt K mg A) : FnOk P w K mg base CX0 1 f fd pm__law_hurried spHurL := by
  refine F.ok sc__law_hurried (fun vs H Q E h => ?_) (fun cdv A' outer s H vs Q E hr h => ?_)
  · obtain ⟨_, _, _, _, rfl, _⟩ := h
    rfl
  · obtain ⟨D, ds, k, t, rfl, hW, hsm, q⟩ := h
    refine ⟨_, pss_cons (ps_set (i := 3) sc__law_hurried.nd rfl (Or.inl rfl) (pe_lst (pa_nil)))
      (pss_cons (ps_for PassesOwn.never rfl (pi_range1 rfl T.n_range (pa_cons (pe_callB call_len_seq (by rfl) T.n_len (by decide +kernel) (pa_cons (pv 0) pa_nil)) pa_nil)) (pg_name (i := 4) sc__law_hurried.nd rfl (Or.inl rfl)) (pss_one (ps_if (PW.pt (pw_and (pt_cmpR op_ne (pv 4) (pv 1) (nomark _)) (pw_and1 (pt_cmpR op_notN (pe_ix ix_tup (pe_ix ix_list (pv 0) (pv 4) (fun _ _ => rfl)) (pe_int) (fun _ _ => rfl)) (pe_non) (nomark _))))) (pss_cons (ps_set (i := 5) sc__law_hurried.nd rfl (Or.inl rfl) (pe_op op_add (pe_ix ix_tup (pe_ix ix_list (pv 0) (pv 4) (fun _ _ => rfl)) (pe_int) (fun _ _ => rfl)) (pe_op op_mul (pe_int) (pe_ix ix_tup (pe_ix ix_list (pv 0) (pv 4) (fun _ _ => rfl)) (pe_int) (fun _ _ => rfl)))))
      (pss_one (ps_if (PW.pt (pw_or (pt_cmpR op_lt (pv 5) (pv 2) (nomark _)) (pw_or1 (PW.pt (pw_and (pt_cmpR op_eq (pv 5) (pv 2) (nomark _)) (pw_and1 (pt_cmpR op_lt (pv 4) (pv 1) (nomark _)))))))) (pss_one (ps_expr (pe_bm PySem.F.plainAttrs_list PySem.F.slot_list_append PySem.F.type_list_append mt_append (pv 3) (pa_cons (pv 4) pa_nil)))) (pss_nil)))) (pss_nil))))
      (pss_one (ps_ret (pv 3)))), ?_⟩
    obtain ⟨qs, hD, rq⟩ := id hW
    refine ⟨by show 0 ≤ sizeLine; decide, fun G hG => ?_⟩
    have e0 := Ext.upd (o := .lst []) hG
    have hD0 := e0 _ _ hD
    refine ⟨_, rfl, D, qs, rfl, .inl (SqL.of hD0), _, rfl, by omega, by rw [rq.len]; omega, ?_⟩
    rw [rq.len]
    refine for_range (n := ds.length) (fun i σ' H' => ∃ o4 o5, σ' = [some (.ref D), some (nI k), some (.int t), some (.ref G), o4, o5] ∧ Ext H H' ∧ H' G = some (.lst (((List.range i).filter (early ds k t)).map nI))) ⟨_, _, rfl, e0, upd_same⟩ (fun i σ' H1 hi pv => ?_) (fun σ' H1 pv => ?_)
    · obtain ⟨o4, o5, rfl, e1, hG1⟩ := pv
      rw [Int.zero_add]
      obtain ⟨d, hd⟩ : ∃ d, ds[i]? = some d := ⟨_, List.getElem?_eq_getElem hi⟩
      obtain ⟨x, hx, tq, rfl, ht⟩ := rq.got hd
      have hD1 := SqL.of (K := K) (e1 _ _ hD)
      have ht1 := e1 _ _ ht
      obtain ⟨a1, a2, a3, a4⟩ := at_d hd
      have out : early ds k t i = false → ∀ o4 o5, ∃ o4' o5', [some (V.ref D), some (nI k), some (V.int t), some (V.ref G), o4, o5] = [some (V.ref D), some (nI k), some (V.int t), some (V.ref G), o4', o5'] ∧ Ext H H1 ∧ H1 G = some (.lst (((List.range (i + 1)).filter (early ds k t)).map nI)) := fun h o4 o5 => by
        refine ⟨_, _, rfl, e1, ?_⟩
        rw [hG1, List.range_succ, List.filter_append, List.filter_cons, h]
        simp
      refine ⟨_, rfl, _, rfl, rfl, _, rfl, ?_⟩
      have hne : decide (V.int (i : Int) = nI k) = decide (i = k) := by
        rw [show nI k = V.int (k : Int) from rfl, dvi]
        exact decide_eq_decide.mpr ⟨fun h => by omega, fun h => by omega⟩
      rw [hne]
      by_cases hik : i = k
      · rw [decide_eq_true hik]
        exact iteF (iteF (out (by rw [Bool.eq_false_iff]; intro h; exact (early_iff.mp h).2.1 hik) _ _))
      · rw [decide_eq_false hik]
        refine iteT ⟨_, rfl, _, rfl, D, qs, (i : Int), .ref tq, rfl, rfl, hD1, atI_nat hx, tq, _, 0, bV d.1, rfl, rfl, SqT.of ht1, rfl, rfl, _, rfl, ?_⟩
        cases hb : d.1 with
        | none =>
          refine iteF (out ?_ _ _)
          rw [Bool.eq_false_iff]
          intro h
          have := (early_iff.mp h).1
          rw [a1, hb] at this
          cases this
        | some n =>
          have hbg : bg ds i = n := by rw [a2, hb]; rfl
          have hfin : fin ds i = n + 2 * d.2.2 := by unfold fin; rw [hbg, a4]
          unfold w3 at ht1
          rw [hb] at ht1
          refine iteT ⟨_, rfl, _, rfl, D, qs, (i : Int), .ref tq, rfl, rfl, hD1, atI_nat hx, tq, _, 0, .int n, rfl, rfl, SqT.of ht1, rfl, _, rfl, _, rfl, D, qs, (i : Int), .ref tq, rfl, rfl, hD1, atI_nat hx, tq, _, 2, .int d.2.2, rfl, rfl, SqT.of ht1, rfl, _, _, rfl, rfl, .inl ⟨by decide, by decide⟩, _, _, rfl, rfl, ?_⟩
          have hev : early ds k t i = (decide (fin ds i < t) || (decide (fin ds i = t) && decide (i < k))) := by
            rw [Bool.eq_iff_iff, early_iff]
            simp only [Bool.or_eq_true, Bool.and_eq_true, decide_eq_true_eq]
            constructor
            · rintro ⟨_, _, h⟩
              exact h
            · intro h
              exact ⟨by rw [a1, hb]; rfl, hik, h⟩
          rw [hfin] at hev
          have yes : early ds k t i = true → ∀ ov : Option V, ∃ l xs y, V.ref G = .ref l ∧ ([V.int (i : Int)] : List V) = [y] ∧ H1 l = some (.lst xs) ∧ xs.length < sizeLine ∧ ∃ o4 o5, [some (V.ref D), some (nI k), some (V.int t), some (V.ref G), some (V.int (i : Int)), ov] = [some (V.ref D), some (nI k), some (V.int t), some (V.ref G), o4, o5] ∧ Ext H (upd H1 l (.lst (xs ++ [y]))) ∧ upd H1 l (.lst (xs ++ [y])) G = some (.lst (((List.range (i + 1)).filter (early ds k t)).map nI)) := fun h ov => by
            refine ⟨G, _, _, rfl, rfl, hG1, small_sz ?_, _, _, rfl, ext_mut e1 hG, ?_⟩
            · rw [List.length_map]
              refine Nat.le_trans (List.length_filter_le _ _) ?_
              rw [List.length_range]
              omega
            · rw [upd_same, List.range_succ, List.filter_append, List.filter_cons, h]
              simp
              rfl
          refine ⟨_, rfl, _, rfl, _, _, rfl, rfl, ?_⟩
          refine ⟨_, rfl, ?_⟩
          cases h1 : decide (n + 2 * d.2.2 < t) with
          | true =>
            rw [h1] at hev
            exact iteT (iteT ⟨_, rfl, .inl ⟨rfl, _, SqL.of hG1⟩, _, rfl, yes hev _⟩)
          | false =>
            rw [h1, Bool.false_or] at hev
            refine iteF ⟨_, rfl, _, rfl, rfl, _, rfl, ?_⟩
            rw [dvi]
            cases h2 : decide (n + 2 * d.2.2 = t) with
            | false =>
              rw [h2] at hev
              exact iteF (iteF (out hev _ _))
            | true =>
              rw [h2, Bool.true_and] at hev
              refine iteT ⟨_, rfl, _, rfl, _, _, rfl, rfl, _, rfl, ?_⟩
              rw [show decide ((i : Int) < (k : Int)) = decide (i < k) from decide_eq_decide.mpr ⟨fun h => by omega, fun h => by omega⟩]
              cases h3 : decide (i < k) with
              | false =>
                rw [h3] at hev
                exact iteF (out hev _ _)
              | true =>
                rw [h3] at hev
                exact iteT ⟨_, rfl, .inl ⟨rfl, _, SqL.of hG1⟩, _, rfl, yes hev _⟩
    · obtain ⟨o4, o5, rfl, e1, hG1⟩ := pv
      exact ⟨_, rfl, q G _ e1 hG hG1⟩
end
end K18

set_option Elab.async false
set_option maxRecDepth 100000
set_option maxHeartbeats 4000000
namespace K18
open PySem PySem.Spec PyProof.Rows L2
theorem upB_iff {ns : List Nat} : upB ns = true ↔ ∀ j, j + 1 < ns.length → ns.getD j 0 < ns.getD (j + 1) 0 := by
  unfold upB
  rw [List.all_eq_true]
  constructor
  · intro h j hj
    exact of_decide_eq_true (h j (List.mem_range.mpr (by omega)))
  · intro h j hj
    have := List.mem_range.mp hj
    exact decide_eq_true (h j (by omega))
theorem inB_iff {n : Nat} {ns : List Nat} : inB n ns = true ↔ ∀ j, j < ns.length → ns.getD j 0 < n := by
  unfold inB
  rw [List.all_eq_true]
  constructor
  · intro h j hj
    have := of_decide_eq_true (h ns[j] (List.getElem_mem hj))
    rw [List.getD_eq_getElem?_getD, List.getElem?_eq_getElem hj]
    exact this
  · intro h x hx
    obtain ⟨j, hj, rfl⟩ := List.getElem_of_mem hx
    have := h j hj
    rw [List.getD_eq_getElem?_getD, List.getElem?_eq_getElem hj] at this
    exact decide_eq_true this
theorem lo_split {H : Hp} {v : V} {lo : Lo} (n : Nat) (h : LoAt H v lo) : (isTupD (loD lo) = false ∧ lotV n lo = false) ∨ (isTupD (loD lo) = true ∧ ∃ (b : Bool) (t : Addr), v = .ref t ∧ H t = some (.tup (lo.2.map nI ++ (if b = true then [.bl true] else []))) ∧ lotV n lo = (!b && (inB n lo.2 && upB lo.2))) := by
  obtain ⟨kk, ns⟩ := lo
  rcases kk with _ | _ | _ | kk
  · obtain ⟨t, rfl, ht⟩ := h
    exact .inr ⟨rfl, false, t, rfl, by rw [ht]; simp, rfl⟩
  · exact .inl ⟨rfl, rfl⟩
  · obtain ⟨t, rfl, ht⟩ := h
    exact .inr ⟨rfl, true, t, rfl, ht, rfl⟩
  · exact .inl ⟨rfl, rfl⟩
section
variable {P : Program} {w : World} {K : PySem.W.Frag} {mg : Str → Option Value} {base : Heap} {A : Ad}
def spLotL : Sp := fun vs H Q _ => ∃ (D : Addr) (ds : List Wd) (v : V) (lo : Lo), vs = [.ref D, v] ∧ Wl H D ds ∧ ds.length ≤ 1000 ∧ LoAt H v lo ∧ lo.2.length ≤ 1000 ∧ Q (.bl (lotV ds.length lo)) H
theorem ok_lotL {f : Addr} {fd : FuncData} (F : Fun K "_law_is_lot" "_law_is_lot" s__law_is_lot f fd) (T : Txt K mg A) : FnOk P w K mg base CX0 1 f fd pm__law_is_lot spLotL := by
  refine F.ok sc__law_is_lot (fun vs H Q E h => ?_) (fun cdv A' outer s H vs Q E hr h => ?_)
  · obtain ⟨_, _, _, _, rfl, _⟩ := h
    rfl
  · obtain ⟨D, ds, v, lo, rfl, hW, hsm, hlo, hsl, q⟩ := h
    refine ⟨_, pss_cons (ps_if (pt_not (pt_val (pe_callB call_isi (by rfl) T.n_isinstance (by decide +kernel) (pa_cons (pv 1) (pa_cons (pe_bltn (v := .ty "tuple") (by rfl) T.n_tuple (by decide +kernel) rfl) pa_nil))))) (pss_one (ps_ret (pe_bl))) (pss_nil))
      (pss_cons (ps_for PassesOwn.never rfl (pi_range1 rfl T.n_range (pa_cons (pe_callB call_len_seq (by rfl) T.n_len (by decide +kernel) (pa_cons (pv 1) pa_nil)) pa_nil)) (pg_name (i := 2) sc__law_is_lot.nd rfl (Or.inl rfl)) (pss_cons (ps_if (PW.pt (pw_or (pt_not (pt_val (pe_callB call_isi (by rfl) T.n_isinstance (by decide +kernel) (pa_cons (pe_ix ix_tup (pv 1) (pv 2) (fun _ _ => rfl)) (pa_cons (pe_bltn (v := .ty "int") (by rfl) T.n_int (by decide +kernel) rfl) pa_nil))))) (pw_or (pt_val (pe_callB call_isi (by rfl) T.n_isinstance (by decide +kernel) (pa_cons (pe_ix ix_tup (pv 1) (pv 2) (fun _ _ => rfl)) (pa_cons (pe_bltn (v := .ty "bool") (by rfl) T.n_bool (by decide +kernel) rfl) pa_nil)))) (pw_or1 (pt_not (pt_chain op_le op_lt (pe_int) (pe_ix ix_tup (pv 1) (pv 2) (fun _ _ => rfl)) (pe_callB call_len_seq (by rfl) T.n_len (by decide +kernel) (pa_cons (pv 0) pa_nil)))))))) (pss_one (ps_ret (pe_bl))) (pss_nil))
      (pss_one (ps_if (PW.pt (pw_and (pt_cmpR op_gt (pv 2) (pe_int) (nomark _)) (pw_and1 (pt_cmpR op_ge (pe_ix ix_tup (pv 1) (pe_op op_sub (pv 2) (pe_int)) (fun _ _ => rfl)) (pe_ix ix_tup (pv 1) (pv 2) (fun _ _ => rfl)) (nomark _))))) (pss_one (ps_ret (pe_bl))) (pss_nil)))))
      (pss_one (ps_ret (pe_bl)))), ?_⟩
    obtain ⟨qs, hD, rq⟩ := id hW
    refine ⟨_, rfl, v, .ty "tuple", .type (tnD (loD lo)), .type "tuple", isTupD (loD lo), rfl, .ty _, dp_ty (lo_dp hlo), kd_tup, _, rfl, ?_⟩
    rcases lo_split ds.length hlo with ⟨h1, h2⟩ | ⟨h1, b, t, rfl, ht, hq⟩
    · rw [h2] at q
      rw [h1]
      exact iteT q
    rw [hq] at q
    rw [h1]
    obtain ⟨kk, ns⟩ := lo
    dsimp only at ht hq q hsl
    clear hq h1 hlo
    refine iteF ⟨_, rfl, t, _, rfl, .inr (SqT.of ht), _, rfl, by omega, by rw [List.length_append, List.length_map]; cases b <;> simp <;> omega, ?_⟩
    have hN : (ns.map nI ++ (if b = true then [V.bl true] else [])).length = ns.length + (if b = true then 1 else 0) := by
      rw [List.length_append, List.length_map]
      cases b <;> rfl
    rw [hN]
    refine for_range (n := ns.length + (if b = true then 1 else 0)) (fun i σ' H' => ∃ o2, σ' = [some (.ref D), some (.ref t), o2] ∧ H' = H ∧ i ≤ ns.length ∧ (∀ j, j < i → ns.getD j 0 < ds.length) ∧ ∀ j, j + 1 < i → ns.getD j 0 < ns.getD (j + 1) 0) ⟨_, rfl, rfl, Nat.zero_le _, fun j hj => absurd hj (Nat.not_lt_zero _), fun j hj => absurd hj (Nat.not_lt_zero _)⟩ (fun i σ' H1 hi pv => ?_) (fun σ' H1 pv => ?_)
    · obtain ⟨o2, rfl, rfl, hin, hb, hu⟩ := pv
      rw [Int.zero_add]
      by_cases hie : i = ns.length
      · have hbt : b = true := by
          cases b with
          | true => rfl
          | false => rw [hie] at hi; simp at hi
        subst hbt
        have hx : (ns.map nI ++ (if true = true then [V.bl true] else []))[i]? = some (.bl true) := by
          rw [if_pos rfl, List.getElem?_append_right (by rw [List.length_map]; omega), List.length_map, hie, Nat.sub_self]
          rfl
        refine ⟨_, rfl, _, rfl, t, _, (i : Int), .bl true, rfl, rfl, SqT.of ht, atI_nat hx, .bl true, .ty "int", .type (tnD (.bool true)), .type "int", isIntD (.bool true), rfl, .ty _, dp_ty (.bl true), kd_int, _, rfl, ?_⟩
        refine iteF ⟨_, rfl, _, rfl, t, _, (i : Int), .bl true, rfl, rfl, SqT.of ht, atI_nat hx, .bl true, .ty "bool", .type (tnD (.bool true)), .type "bool", isBoolD (.bool true), rfl, .ty _, dp_ty (.bl true), kd_bool, _, rfl, ?_⟩
        exact iteT q
      · have hil : i < ns.length := by omega
        have hat : ∀ j, j < ns.length → (ns.map nI ++ (if b = true then [V.bl true] else []))[j]? = some (.int (ns.getD j 0 : Nat)) := fun j hj => by
          rw [List.getElem?_append_left (by rw [List.length_map]; exact hj), List.getElem?_map, List.getElem?_eq_getElem hj, List.getD_eq_getElem?_getD, List.getElem?_eq_getElem hj]
          rfl
        have hx := hat i hil
        refine ⟨_, rfl, _, rfl, t, _, (i : Int), _, rfl, rfl, SqT.of ht, atI_nat hx, .int (ns.getD i 0 : Nat), .ty "int", .type (tnD (.int (ns.getD i 0 : Nat))), .type "int", isIntD (.int (ns.getD i 0 : Nat)), rfl, .ty _, dp_ty (.int _), kd_int, _, rfl, ?_⟩
        refine iteF ⟨_, rfl, _, rfl, t, _, (i : Int), _, rfl, rfl, SqT.of ht, atI_nat hx, .int (ns.getD i 0 : Nat), .ty "bool", .type (tnD (.int (ns.getD i 0 : Nat))), .type "bool", isBoolD (.int (ns.getD i 0 : Nat)), rfl, .ty _, dp_ty (.int _), kd_bool, _, rfl, ?_⟩
        refine iteF ⟨_, rfl, _, rfl, t, _, (i : Int), _, rfl, rfl, SqT.of ht, atI_nat hx, _, _, rfl, rfl, _, rfl, ?_⟩
        rw [decide_eq_true (Int.natCast_nonneg _)]
        refine iteT ⟨_, rfl, D, qs, rfl, .inl (SqL.of hD), _, _, rfl, rfl, _, rfl, ?_⟩
        rw [rq.len]
        by_cases hx1 : ns.getD i 0 < ds.length
        · rw [decide_eq_true (show ((ns.getD i 0 : Nat) : Int) < (ds.length : Int) by omega)]
          refine iteF ⟨_, rfl, _, _, rfl, rfl, _, rfl, ?_⟩
          have okb : ∀ j, j < i + 1 → ns.getD j 0 < ds.length := fun j hj => by
            rcases Nat.lt_succ_iff_lt_or_eq.mp hj with h | h
            · exact hb j h
            · rw [h]; exact hx1
          rcases Nat.eq_zero_or_pos i with h0 | h0
          · rw [decide_eq_false (show ¬ (i : Int) > 0 by omega)]
            exact iteF (iteF ⟨_, rfl, rfl, by omega, okb, fun j hj => absurd hj (by omega)⟩)
          · rw [decide_eq_true (show (i : Int) > 0 by omega)]
            have hx' := hat (i - 1) (by omega)
            refine iteT ⟨_, rfl, _, rfl, _, _, rfl, rfl, t, _, ((i - 1 : Nat) : Int), _, rfl, by show V.int ((i : Int) - 1) = _; rw [show ((i : Int) - 1) = ((i - 1 : Nat) : Int) by omega], SqT.of ht, atI_nat hx', _, rfl, _, rfl, t, _, (i : Int), _, rfl, rfl, SqT.of ht, atI_nat hx, _, _, rfl, rfl, _, rfl, ?_⟩
            by_cases hx2 : ns.getD (i - 1) 0 < ns.getD i 0
            · rw [decide_eq_false (show ¬ ((ns.getD (i - 1) 0 : Nat) : Int) ≥ ((ns.getD i 0 : Nat) : Int) by omega)]
              refine iteF ⟨_, rfl, rfl, by omega, okb, fun j hj => ?_⟩
              by_cases hj2 : j + 1 < i
              · exact hu j hj2
              · have : j = i - 1 := by omega
                subst this
                rw [show i - 1 + 1 = i by omega]
                exact hx2
            · rw [decide_eq_true (show ((ns.getD (i - 1) 0 : Nat) : Int) ≥ ((ns.getD i 0 : Nat) : Int) by omega)]
              have e2 : upB ns = false := by
                rw [Bool.eq_false_iff]
                intro h
                have := upB_iff.mp h (i - 1) (by omega)
                rw [show i - 1 + 1 = i by omega] at this
                exact hx2 this
              rw [e2, Bool.and_false, Bool.and_false] at q
              exact iteT q
        · rw [decide_eq_false (show ¬ ((ns.getD i 0 : Nat) : Int) < (ds.length : Int) by omega)]
          have e1 : inB ds.length ns = false := by
            rw [Bool.eq_false_iff]
            intro h
            exact hx1 (inB_iff.mp h i hil)
          rw [e1, Bool.false_and, Bool.and_false] at q
          exact iteT q
    · obtain ⟨o2, rfl, rfl, hin, hb, hu⟩ := pv
      have hbf : b = false := by
        cases b with
        | false => rfl
        | true =>
          rw [if_pos rfl] at hin
          omega
      subst hbf
      have e1 : inB ds.length ns = true := inB_iff.mpr fun j hj => hb j (by simpa using hj)
      have e2 : upB ns = true := upB_iff.mpr fun j hj => hu j (by simpa using hj)
      rw [e1, e2] at q
      exact q
end
end K18

set_option Elab.async false
set_option maxRecDepth 100000
set_option maxHeartbeats 4000000
namespace K18
open PySem PySem.Spec PyProof.Rows L2
theorem nats_shp (ns : List Nat) : SeqAt.shaped (.tuple (natsD ns)) = true := by
  obtain ⟨h1, h2⟩ := nats_lay ns
  show (PyData.canLayAll0 (natsD ns) && decide (PyData.depthAll (natsD ns) + 1 ≤ 64)) = true
  rw [h1, h2]
  rfl
theorem nats_nil {ns : List Nat} : PyData.eqv (.tuple (natsD ns)) (.tuple []) = decide (ns.length = 0) := by
  cases ns with
  | nil => rfl
  | cons n ns => rfl
theorem emp_map {ns : List Nat} : (ns.map nI).isEmpty = ns.isEmpty := by cases ns <;> rfl
theorem emp_filter {p : Nat → Bool} : ∀ {ns : List Nat}, (ns.filter p).isEmpty = ns.all fun j => !p j
  | [] => rfl
  | n :: ns => by
    rw [List.filter_cons, List.all_cons]
    cases h : p n with
    | true => rfl
    | false => exact emp_filter
theorem wl_e {H H' : Hp} {D : Addr} {ds : List Wd} (h : Wl H D ds) (e : Ext H H') : Wl H' D ds := h.ext e
section
variable {P : Program} {w : World} {K : PySem.W.Frag} {mg : Str → Option Value} {base : Heap} {A : Ad}
def spNevL : Sp := fun vs H Q _ => ∃ (D : Addr) (ds : List Wd) (z k : Nat) (t : Int) (v : V) (lo : Lo), vs = [.ref D, .int (z : Int), nI k, .int t, v] ∧ Wl H D ds ∧ ds.length ≤ 1000 ∧ k < ds.length ∧ LoAt H v lo ∧ lo.2.length ≤ 1000 ∧ ∀ H', Ext H H' → Q (.bl (nevV ds z k t lo)) H'
theorem ok_nevL {f : Addr} {fd : FuncData} (F : Fun K "_law_never" "_law_never" s__law_never f fd) (T : Txt K mg A) (O__law_is_lot : Own P w K mg base CX0 "_law_is_lot" 1 pm__law_is_lot spLotL) (O__law_hurried : Own P w K mg base CX0 "_law_hurried" 1 pm__law_hurried spHurL) : FnOk P w K mg base CX0 2 f fd pm__law_never spNevL := by
  refine F.ok sc__law_never (fun vs H Q E h => ?_) (fun cdv A' outer s H vs Q E hr h => ?_)
  · obtain ⟨_, _, _, _, _, _, _, rfl, _⟩ := h
    rfl
  · obtain ⟨D, ds, z, k, t, v, lo, rfl, hW, hsm, hk, hlo, hsl, q⟩ := h
    refine ⟨_, pss_cons (ps_set (i := 5) sc__law_never.nd rfl (Or.inl rfl) (pe_ix ix_list (pv 0) (pv 2) (fun _ _ => rfl)))
      (pss_cons (ps_set (i := 6) sc__law_never.nd rfl (Or.inl rfl) (pe_and (pe_cmpR op_notN (pe_ix ix_tup (pv 5) (pe_int) (fun _ _ => rfl)) (pe_non) (nomark _)) (pe_one (pe_chain op_le op_le (pe_op op_add (pe_ix ix_tup (pv 5) (pe_int) (fun _ _ => rfl)) (pe_op op_mul (pe_int) (pe_ix ix_tup (pv 5) (pe_int) (fun _ _ => rfl)))) (pv 3) (pe_op op_add (pe_ix ix_tup (pv 5) (pe_int) (fun _ _ => rfl)) (pe_op op_mul (pe_int) (pe_ix ix_tup (pv 5) (pe_int) (fun _ _ => rfl))))))))
      (pss_cons (ps_if (pt_not (pt_val (pe_own O__law_is_lot (hr.mono (by decide)) pass0 (pa_cons (pv 0) (pa_cons (pv 4) pa_nil))))) (pss_one (ps_ret (pe_bl))) (pss_nil))
      (pss_cons (ps_if (pt_not (pt_truth (pv 6) (by intro _; rfl))) (pss_one (ps_ret (pe_cmpR (op_eqDK (K := K) rfl hr.units) (pv 4) (pe_tup (pa_nil)) (nomark _)))) (pss_nil))
      (pss_one (ps_ret (pe_and (pe_cmpR op_eq (pe_callB call_len_seq (by rfl) T.n_len (by decide +kernel) (pa_cons (pv 4) pa_nil)) (pe_op op_add (pv 1) (pe_int)) (nomark _)) (pe_one (pe_notT (pe_lc (own := [("_law_k", 7)]) (g := gName 7) (by rfl) sc__law_never.nd (pi_tup (pv 4)) (blkOk_by (own := [("_law_k", 7)]) (N := nm__law_never) (sc := defScope s__law_never) (by decide +kernel)) (fun _ _ _ _ _ => pg_name (i := 7) sc__law_never.nd rfl (Or.inl rfl)) (fun s1 H1 C1 cl fp => pts_one (pt_cmpR (op_notIn_seqK (K := K) rfl) (pv 7) (pe_own O__law_hurried (hr.mono (by decide)) pass0 (pa_cons (pv 0) (pa_cons (pv 2) (pa_cons (pv 3) pa_nil)))) (by with_unfolding_all rfl))) (fun s1 H1 C1 cl fp => pv 7)))))))))), ?_⟩
    obtain ⟨qs, hD, rq⟩ := id hW
    obtain ⟨d, hd⟩ : ∃ d, ds[k]? = some d := ⟨_, List.getElem?_eq_getElem hk⟩
    obtain ⟨x, hx, tq, rfl, ht⟩ := rq.got hd
    obtain ⟨a1, a2, a3, a4⟩ := at_d hd
    refine ⟨_, rfl, _, rfl, D, qs, (k : Int), .ref tq, rfl, rfl, SqL.of hD, atI_nat hx, ?_⟩
    refine ⟨_, rfl, tq, _, 0, bV d.1, rfl, rfl, SqT.of ht, rfl, rfl, _, rfl, ?_⟩
    cases hb : d.1 with
    | none =>
      have hin : inWb ds k t = false := by unfold inWb; rw [a1, hb]; rfl
      refine iteF ?_
      refine ⟨_, rfl, _, rfl, D, ds, v, lo, rfl, hW, hsm, hlo, hsl, _, rfl, ?_⟩
      unfold nevV at q
      rw [hin] at q
      cases hl : lotV ds.length lo with
      | false =>
        rw [hl] at q
        exact iteT (q H Ext.rfl')
      | true =>
        rw [hl, Bool.true_and, if_neg (by decide)] at q
        obtain ⟨⟨u, rfl, hu⟩, _, _⟩ := lot_at (K := K) hlo hl
        refine iteF ⟨_, rfl, false, rfl, iteT ⟨_, rfl, by show 0 ≤ sizeLine; decide, fun e he => ?_⟩⟩
        have e1 := Ext.upd (o := .tup []) he
        refine ⟨.tuple (natsD lo.2), .tuple [], .tup (SqT.of (e1 _ _ hu)) (nats_dp _), .tup (SqT.of upd_same) .nil, nats_shp _, rfl, ?_⟩
        rw [nats_nil]
        exact q _ e1
    | some n =>
      have hbg : bg ds k = n := by rw [a2, hb]; rfl
      have hh : has ds k = true := by rw [a1, hb]; rfl
      have hfin : fin ds k = n + 2 * d.2.2 := by unfold fin; rw [hbg, a4]
      have hopn : opn ds k = n + 2 * d.2.1 := by unfold opn; rw [hbg, a3]
      unfold w3 at ht
      rw [hb] at ht
      refine iteT ⟨_, rfl, tq, _, 0, .int n, rfl, rfl, SqT.of ht, rfl, _, rfl, tq, _, 1, .int d.2.1, rfl, rfl, SqT.of ht, rfl, _, _, rfl, rfl, .inl ⟨by decide, by decide⟩, _, _, rfl, rfl, _, rfl, _, _, rfl, rfl, _, rfl, ?_⟩
      cases h1 : decide (n + 2 * d.2.1 ≤ t) with
      | false =>
        have hin : inWb ds k t = false := by unfold inWb; rw [hh, hopn, h1]; rfl
        refine iteF ?_
        refine ⟨_, rfl, _, rfl, D, ds, v, lo, rfl, hW, hsm, hlo, hsl, _, rfl, ?_⟩
        unfold nevV at q
        rw [hin] at q
        cases hl : lotV ds.length lo with
        | false =>
          rw [hl] at q
          exact iteT (q H Ext.rfl')
        | true =>
          rw [hl, Bool.true_and, if_neg (by decide)] at q
          obtain ⟨⟨u, rfl, hu⟩, _, _⟩ := lot_at (K := K) hlo hl
          refine iteF ⟨_, rfl, false, rfl, iteT ⟨_, rfl, by show 0 ≤ sizeLine; decide, fun e he => ?_⟩⟩
          have e1 := Ext.upd (o := .tup []) he
          refine ⟨.tuple (natsD lo.2), .tuple [], .tup (SqT.of (e1 _ _ hu)) (nats_dp _), .tup (SqT.of upd_same) .nil, nats_shp _, rfl, ?_⟩
          rw [nats_nil]
          exact q _ e1
      | true =>
        refine iteT ⟨_, rfl, tq, _, 0, .int n, rfl, rfl, SqT.of ht, rfl, _, rfl, tq, _, 2, .int d.2.2, rfl, rfl, SqT.of ht, rfl, _, _, rfl, rfl, .inl ⟨by decide, by decide⟩, _, _, rfl, rfl, _, _, rfl, rfl, ?_⟩
        have hin : inWb ds k t = decide (t ≤ n + 2 * d.2.2) := by unfold inWb; rw [hh, hopn, h1, hfin, Bool.true_and, Bool.true_and]
        cases h2 : decide (t ≤ n + 2 * d.2.2) with
        | false =>
          rw [h2] at hin
          refine ⟨_, rfl, _, rfl, D, ds, v, lo, rfl, hW, hsm, hlo, hsl, _, rfl, ?_⟩
          unfold nevV at q
          rw [hin] at q
          cases hl : lotV ds.length lo with
          | false =>
            rw [hl] at q
            exact iteT (q H Ext.rfl')
          | true =>
            rw [hl, Bool.true_and, if_neg (by decide)] at q
            obtain ⟨⟨u, rfl, hu⟩, _, _⟩ := lot_at (K := K) hlo hl
            refine iteF ⟨_, rfl, false, h2.symm, iteT ⟨_, rfl, by show 0 ≤ sizeLine; decide, fun e he => ?_⟩⟩
            have e1 := Ext.upd (o := .tup []) he
            refine ⟨.tuple (natsD lo.2), .tuple [], .tup (SqT.of (e1 _ _ hu)) (nats_dp _), .tup (SqT.of upd_same) .nil, nats_shp _, rfl, ?_⟩
            rw [nats_nil]
            exact q _ e1
        | true =>
          rw [h2] at hin
          refine ⟨_, rfl, _, rfl, D, ds, v, lo, rfl, hW, hsm, hlo, hsl, _, rfl, ?_⟩
          unfold nevV at q
          rw [hin] at q
          cases hl : lotV ds.length lo with
          | false =>
            rw [hl] at q
            exact iteT (q H Ext.rfl')
          | true =>
            rw [hl, Bool.true_and, if_pos rfl] at q
            obtain ⟨⟨u, rfl, hu⟩, _, _⟩ := lot_at (K := K) hlo hl
            obtain ⟨lk, ns⟩ := lo
            dsimp only at hu q hsl
            refine iteF ⟨_, rfl, true, h2.symm, iteF ⟨_, rfl, u, _, rfl, .inr (SqT.of hu), _, rfl, _, _, rfl, rfl, rfl, _, rfl, ?_⟩⟩
            rw [List.length_map, dvi, show decide (((ns.length : Nat) : Int) = (z : Int) + 1) = decide (ns.length = z + 1) from decide_eq_decide.mpr ⟨fun h => by omega, fun h => by omega⟩]
            cases hle : decide (ns.length = z + 1) with
            | false =>
              rw [hle] at q
              exact iteF (q H Ext.rfl')
            | true =>
              rw [hle, Bool.true_and] at q
              refine iteT ⟨_, rfl, u, rfl, ⟨_, SqT.of hu⟩, fun C hC => ?_⟩
              refine lc_it (walk_tup (xs := ns.map nI)) (fun i H' => Ext H H' ∧ H' C = some (.lst (((ns.take i).filter fun j => !early ds k t j).map nI))) ⟨Ext.upd hC, upd_same⟩ (fun i H' _ pv => SqT.of (pv.1 _ _ hu)) (fun i x H' H2 hi pv hy => ?_) (fun H' pv => ?_)
              · obtain ⟨e4, hC4⟩ := pv
                obtain ⟨rfl, hx⟩ := hy
                rw [List.getElem?_map] at hx
                obtain ⟨j, hj, rfl⟩ := Option.map_eq_some_iff.mp hx
                refine ⟨rfl, _, rfl, _, rfl, _, rfl, _, rfl, D, ds, k, t, rfl, wl_e hW e4, hsm, fun L H5 e5 hLn hL => ?_⟩
                refine ⟨L, _, rfl, .inl (SqL.of hL), rfl, flat_nI _, _, rfl, ?_⟩
                rw [show inV (nI j) ((hurs ds k t).map nI) = decide (j ∈ hurs ds k t) from inV_nI j _]
                have hmem : decide (j ∈ hurs ds k t) = early ds k t j := by
                  unfold hurs
                  rw [Bool.eq_iff_iff, decide_eq_true_eq, List.mem_filter, List.mem_range]
                  exact ⟨fun h => h.2, fun h => ⟨has_lt (early_iff.mp h).1, h⟩⟩
                rw [hmem, take_snoc hj, List.filter_append, List.filter_cons]
                have e45 := e4.trans e5
                have hC5 := e5 _ _ hC4
                cases he : early ds k t j with
                | true =>
                  refine iteF ⟨e45, ?_⟩
                  rw [hC5]
                  simp [he]
                | false =>
                  refine iteT ⟨_, rfl, _, hC5, small_sz ?_, ext_mut e45 hC, ?_⟩
                  · rw [List.length_map]
                    refine Nat.le_trans (List.length_filter_le _ _) ?_
                    rw [List.length_take]
                    omega
                  · rw [upd_same, List.map_append]
                    rfl
              · obtain ⟨e4, hC4⟩ := pv
                rw [List.length_map, List.take_length] at hC4
                refine ⟨_, .inl ⟨_, SqL.of hC4, rfl⟩, ?_⟩
                have hv : (!!(List.map nI (List.filter (fun j => !early ds k t j) ns)).isEmpty) = ns.all (early ds k t) := by
                  rw [Bool.not_not, emp_map, emp_filter]
                  simp
                rw [hv]
                exact q H' e4
end
end K18

set_option Elab.async false
set_option maxRecDepth 100000
set_option maxHeartbeats 4000000
namespace K18
open PySem PySem.Spec PyProof.Rows L2
theorem shp_refl {d : PyData} (h : SeqAt.shaped d = true) : PyData.eqv d d = true := by
  refine PySem.SeqAt.eqv_refl d ?_
  unfold SeqAt.shaped at h
  rw [Bool.and_eq_true] at h
  exact h.1
def rnD (es : List En) : PyData := .tuple (es.map enD)
theorem en_lay (e : En) : PyData.canLay0 (enD e) = true ∧ PyData.depth (enD e) ≤ 1 := by
  cases e with
  | none => exact ⟨rfl, by decide⟩
  | some p =>
    obtain ⟨a, b⟩ := p
    exact ⟨rfl, by show max 0 (max 0 0) + 1 ≤ 1; decide⟩
theorem ens_lay : ∀ es : List En, PyData.canLayAll0 (es.map enD) = true ∧ PyData.depthAll (es.map enD) ≤ 1
  | [] => ⟨rfl, by decide⟩
  | e :: es => by
    obtain ⟨h1, h2⟩ := ens_lay es
    obtain ⟨h3, h4⟩ := en_lay e
    refine ⟨?_, ?_⟩
    · show (PyData.canLay0 (enD e) && PyData.canLayAll0 (es.map enD)) = true
      rw [h1, h3]
      rfl
    · show max (PyData.depth (enD e)) (PyData.depthAll (es.map enD)) ≤ 1
      exact Nat.max_le.mpr ⟨h4, h2⟩
theorem rnsl_lay : ∀ rs : List (List En), PyData.canLayAll0 (rs.map rnD) = true ∧ PyData.depthAll (rs.map rnD) ≤ 2
  | [] => ⟨rfl, by decide⟩
  | es :: rs => by
    obtain ⟨h1, h2⟩ := rnsl_lay rs
    obtain ⟨h3, h4⟩ := ens_lay es
    refine ⟨?_, ?_⟩
    · show (PyData.canLayAll0 (es.map enD) && PyData.canLayAll0 (rs.map rnD)) = true
      rw [h1, h3]
      rfl
    · show max (PyData.depthAll (es.map enD) + 1) (PyData.depthAll (rs.map rnD)) ≤ 2
      exact Nat.max_le.mpr ⟨by omega, h2⟩
theorem runs_shp (rs : List (List En)) : SeqAt.shaped (.list (rs.map rnD)) = true := by
  obtain ⟨h1, h2⟩ := rnsl_lay rs
  show (PyData.canLayAll0 (rs.map rnD) && decide (PyData.depthAll (rs.map rnD) + 1 ≤ 64)) = true
  rw [h1, decide_eq_true (by omega)]
  rfl
theorem lim_ne {z : Int} {ds : List Wd} (hf : Fit ds) (z0 : 0 ≤ z) : 1 ≤ (lim z ds).length := by
  have hm : (ds.map fun d => if d.1.isSome = true then (some (d.2.1, d.2.1) : En) else none) ∈ lim z ds := by
    refine mem_lim.mpr ?_
    have hent : ∀ (j : Nat) (d : Wd), ds[j]? = some d → ent (ds.map fun d => if d.1.isSome = true then (some (d.2.1, d.2.1) : En) else none) j = if d.1.isSome = true then some (d.2.1, d.2.1) else none := fun j d hd => by
      unfold ent
      rw [List.getElem?_map, hd]
      rfl
    have hq : qn ds (ds.map fun d => if d.1.isSome = true then (some (d.2.1, d.2.1) : En) else none) = 0 := by
      unfold qn
      rw [List.length_eq_zero_iff, List.filter_eq_nil_iff]
      intro j hj hs
      obtain ⟨d, hd⟩ : ∃ d, ds[j]? = some d := ⟨_, List.getElem?_eq_getElem (List.mem_range.mp hj)⟩
      unfold shut at hs
      rw [hent j d hd, has_of hd] at hs
      cases hb : d.1.isSome with
      | true => rw [hb] at hs; cases hs
      | false => rw [hb] at hs; cases hs
    refine ⟨⟨List.length_map _, fun j a b he => ?_⟩, by rw [hq]; exact z0⟩
    cases hd : ds[j]? with
    | none =>
      unfold ent at he
      rw [List.getElem?_map, hd] at he
      cases he
    | some d =>
      rw [hent j d hd] at he
      cases hb : d.1.isSome with
      | false => rw [hb] at he; cases he
      | true =>
        rw [hb] at he
        cases he
        have hh : has ds j = true := by rw [has_of hd]; exact hb
        have := hf j hh
        obtain ⟨a1, a2, a3, a4⟩ := at_d hd
        rw [a3, a4] at this
        rw [a3, a4]
        exact ⟨hh, Int.le_refl _, this, Int.le_refl _, this⟩
  exact List.length_pos_of_mem hm
theorem ents_few {d : Wd} (h : d.2.2 ≤ d.2.1 + 1) : (ents d).length ≤ 5 := by
  unfold ents
  rw [List.length_cons]
  split
  · rw [pairs_len]
    have h3 : (d.2.2 + 1 - d.2.1).toNat ≤ 2 := by omega
    have := Nat.mul_le_mul h3 h3
    omega
  · exact Nat.le_trans (Nat.le_refl 1) (by decide)
theorem rns_few {ds : List Wd} (hn : Near ds) : ∀ i, (rns ds i).length ≤ 5 ^ i
  | 0 => by unfold rns; exact Nat.le_refl _
  | i + 1 => by
    have ih := rns_few hn i
    cases hd : ds[i]? with
    | none =>
      have : rns ds (i + 1) = rns ds i := by
        show (match ds[i]? with | some d => more (rns ds i) d | none => rns ds i) = _
        rw [hd]
      rw [this]
      exact Nat.le_trans ih (Nat.pow_le_pow_right (by decide) (Nat.le_succ i))
    | some d =>
      rw [rns_next hd, more_len, Nat.pow_succ]
      exact Nat.mul_le_mul ih (ents_few (hn i d hd))
theorem lim_few {z : Int} {ds : List Wd} (hn : Near ds) (h3 : ds.length ≤ 3) : (lim z ds).length ≤ 125 :=
  Nat.le_trans (List.length_filter_le _ _) (Nat.le_trans (rns_few hn ds.length) (Nat.pow_le_pow_right (by decide) h3))
theorem rn_shp (es : List En) : SeqAt.shaped (rnD es) = true := by
  obtain ⟨h1, h2⟩ := ens_lay es
  show (PyData.canLayAll0 (es.map enD) && decide (PyData.depthAll (es.map enD) + 1 ≤ 64)) = true
  rw [h1, decide_eq_true (by omega)]
  rfl
theorem en_eqv (a b : En) : PyData.eqv (enD a) (enD b) = decide (a = b) := by
  cases a with
  | none => cases b with
    | none => rfl
    | some q => rfl
  | some p => cases b with
    | none => rfl
    | some q =>
      obtain ⟨x, y⟩ := p
      obtain ⟨x', y'⟩ := q
      show ((x == x') && ((y == y') && true)) = _
      rw [Bool.eq_iff_iff]
      simp
theorem ens_eqv : ∀ as bs : List En, PyData.eqvAll (as.map enD) (bs.map enD) = decide (as = bs)
  | [], [] => rfl
  | [], _ :: _ => rfl
  | _ :: _, [] => rfl
  | a :: as, b :: bs => by
    show (PyData.eqv (enD a) (enD b) && PyData.eqvAll (as.map enD) (bs.map enD)) = _
    rw [en_eqv, ens_eqv as bs, Bool.eq_iff_iff]
    simp
theorem rn_eqv (a b : List En) : PyData.eqv (rnD a) (rnD b) = decide (a = b) := ens_eqv a b
theorem rn_any {es : List En} {rs : List (List En)} : ((rs.map rnD).any fun z => PyData.eqv z (rnD es)) = decide (es ∈ rs) := by
  rw [Bool.eq_iff_iff, List.any_eq_true, decide_eq_true_eq]
  constructor
  · rintro ⟨x, hx, he⟩
    obtain ⟨p, hp, rfl⟩ := List.mem_map.mp hx
    rw [rn_eqv, decide_eq_true_eq] at he
    rw [← he]
    exact hp
  · intro h
    exact ⟨rnD es, List.mem_map.mpr ⟨es, h, rfl⟩, by rw [rn_eqv]; exact decide_eq_true rfl⟩
def latR (ds : List Wd) (z : Nat) (t : Int) (es : List En) (lo : Lo) : Bool := (match out ds es with | some (_, m) => decide (m = t) | none => false) && (lotV ds.length lo && ((decide (lo.2.length = z + 1) && lo.2.all (has ds)) && lo.2.all fun j => decide (fin ds j ≤ t)))
theorem inl_map {es : List En} : (es.map (Sum.inl (β := PyData))).map eoE = es := by
  rw [List.map_map]
  exact List.map_id'' (fun _ => rfl) _
theorem lat_rn {ds : List Wd} {z : Nat} {t : Int} {es : List En} {lo : Lo} (hr : Run ds es) (hq : (qn ds es : Int) ≤ (z : Int)) : latV ds z t (.inl (true, es.map Sum.inl)) lo = latR ds z t es lo := by
  have ho : okX ds (z : Int) (.inl (true, es.map Sum.inl)) = true := by
    show (dueR ds (z : Int) (true, es.map Sum.inl)).isNone = true
    rw [due_right hr hq]
    rfl
  have he : rxE (.inl (true, es.map Sum.inl)) = es := inl_map
  unfold latV latR
  rw [end_yes ho, he]
  cases out ds es with
  | none => rfl
  | some km =>
    obtain ⟨k, m⟩ := km
    dsimp only
    by_cases h : m = t
    · rw [if_pos h, decide_eq_true h]
      rfl
    · rw [if_neg h, decide_eq_false h]
      rfl
section
variable {P : Program} {w : World} {K : PySem.W.Frag} {mg : Str → Option Value} {base : Heap} {A : Ad}
theorem rn_dp {H : Hp} {v : V} {es : List En} (h : RnAt H v es) : Dp K H v (rnD es) := by
  obtain ⟨t, vs, rfl, ht, hr⟩ := h
  exact .tup (SqT.of ht) (ens_dp hr)
theorem runs_dp {H : Hp} : ∀ {xs : List V} {rs : List (List En)}, Rel2 (RnAt H) xs rs → DpAll K H xs (rs.map rnD)
  | [], [], _ => .nil
  | [], _ :: _, h => nomatch h
  | _ :: _, [], h => nomatch h
  | _ :: _, _ :: _, ⟨h1, h2⟩ => .cons (rn_dp h1) (runs_dp h2)
def spLatL : Sp := fun vs H Q _ => ∃ (D L : Addr) (ds : List Wd) (z : Nat) (t : Int) (v v2 : V) (es : List En) (lo : Lo) (ys : List V), vs = [.ref D, .int (z : Int), .int t, v, v2, .ref L] ∧ Wl H D ds ∧ ds.length ≤ 1000 ∧ RnAt H v es ∧ es ∈ lim (z : Int) ds ∧ LoAt H v2 lo ∧ lo.2.length ≤ 1000 ∧ H L = some (.lst ys) ∧ Rel2 (RnAt H) ys (lim (z : Int) ds) ∧ ∀ H', Ext H H' → Q (.bl (latR ds z t es lo)) H'
theorem ok_latL {f : Addr} {fd : FuncData} (F : Fun K "_law_latest" "_law_latest" s__law_latest f fd) (T : Txt K mg A) (O__law_outcome : Own P w K mg base CX0 "_law_outcome" 1 pm__law_outcome spOut) (O__law_is_lot : Own P w K mg base CX0 "_law_is_lot" 1 pm__law_is_lot spLotL) : FnOk P w K mg base CX0 2 f fd pm__law_latest spLatL := by
  refine F.ok sc__law_latest (fun vs H Q E h => ?_) (fun cdv A' outer s H vs Q E hr h => ?_)
  · obtain ⟨_, _, _, _, _, _, _, _, _, _, rfl, _⟩ := h
    rfl
  · obtain ⟨D, L, ds, z, t, v, v2, es, lo, ys, rfl, hW, hsm, hv, hlim, hlo, hsl, hL, rys, q⟩ := h
    refine ⟨_, pss_cons (ps_if (PW.pt (pw_or (pt_cmpR (op_notInDK (K := K) rfl hr.in1.units) (pv 3) (pv 5) (by with_unfolding_all rfl)) (pw_or (pt_cmpR op_ne (pe_ix ix_tup (pe_own O__law_outcome (hr.mono (by decide)) pass0 (pa_cons (pv 0) (pa_cons (pv 3) pa_nil))) (pe_int) (fun _ _ => rfl)) (pv 2) (nomark _)) (pw_or1 (pt_not (pt_val (pe_own O__law_is_lot (hr.mono (by decide)) pass0 (pa_cons (pv 0) (pa_cons (pv 4) pa_nil))))))))) (pss_one (ps_ret (pe_bl))) (pss_nil))
      (pss_cons (ps_if (PW.pt (pw_or (pt_cmpR op_ne (pe_callB call_len_seq (by rfl) T.n_len (by decide +kernel) (pa_cons (pv 4) pa_nil)) (pe_op op_add (pv 1) (pe_int)) (nomark _)) (pw_or1 (pt_truthK (K := K) rfl (pe_lc (own := [("_law_k", 6)]) (g := gName 6) (by rfl) sc__law_latest.nd (pi_tup (pv 4)) (blkOk_by (own := [("_law_k", 6)]) (N := nm__law_latest) (sc := defScope s__law_latest) (by decide +kernel)) (fun _ _ _ _ _ => pg_name (i := 6) sc__law_latest.nd rfl (Or.inl rfl)) (fun s1 H1 C1 cl fp => pts_one (pt_cmpR op_isN (pe_ix (ix_tupK (K := K) rfl) (pe_ix (ix_listK (K := K) rfl) (pv 0) (pv 6) (fun _ _ => rfl)) (pe_int) (fun _ _ => rfl)) (pe_non) (nomark _))) (fun s1 H1 C1 cl fp => pv 6)) (by intro _; rfl))))) (pss_one (ps_ret (pe_bl))) (pss_nil))
      (pss_one (ps_ret (pe_notT (pe_lc (own := [("_law_k", 6)]) (g := gName 6) (by rfl) sc__law_latest.nd (pi_tup (pv 4)) (blkOk_by (own := [("_law_k", 6)]) (N := nm__law_latest) (sc := defScope s__law_latest) (by decide +kernel)) (fun _ _ _ _ _ => pg_name (i := 6) sc__law_latest.nd rfl (Or.inl rfl)) (fun s1 H1 C1 cl fp => pts_one (pt_cmpR op_gt (pe_op op_add (pe_ix (ix_tupK (K := K) rfl) (pe_ix (ix_listK (K := K) rfl) (pv 0) (pv 6) (fun _ _ => rfl)) (pe_int) (fun _ _ => rfl)) (pe_op op_mul (pe_int) (pe_ix (ix_tupK (K := K) rfl) (pe_ix (ix_listK (K := K) rfl) (pv 0) (pv 6) (fun _ _ => rfl)) (pe_int) (fun _ _ => rfl)))) (pv 2) (nomark _))) (fun s1 H1 C1 cl fp => pv 6)))))), ?_⟩
    obtain ⟨hrun, hqn⟩ := mem_lim.mp hlim
    refine ⟨_, rfl, _, rfl, rnD es, (lim (z : Int) ds).map rnD, rn_dp hv, .lst (SqL.of hL) (runs_dp rys), rn_shp es, runs_shp _, _, rfl, ?_⟩
    rw [rn_any, decide_eq_true hlim]
    refine iteF ⟨_, rfl, _, rfl, D, ds, v, es, rfl, hW, hv, hrun, hsm, fun to u H1 e1 hto hu => ?_⟩
    unfold latR at q
    cases hm : out ds es with
    | none =>
      rw [hm] at hto q
      exact ⟨to, _, 1, .non, rfl, rfl, SqT.of hto, rfl, _, rfl, rfl, _, rfl, iteT (q H1 e1)⟩
    | some km =>
      obtain ⟨k, m⟩ := km
      rw [hm] at hto q
      dsimp only at q
      refine ⟨to, _, 1, .int m, rfl, rfl, SqT.of hto, rfl, _, rfl, rfl, _, rfl, ?_⟩
      rw [dvi]
      cases hmt : decide (m = t) with
      | false =>
        rw [hmt] at q
        exact iteT (q H1 e1)
      | true =>
        rw [hmt, Bool.true_and] at q
        refine iteF ⟨_, rfl, _, rfl, D, ds, v2, lo, rfl, hW.ext e1, hsm, hlo.ext e1, hsl, _, rfl, ?_⟩
        cases hl : lotV ds.length lo with
        | false =>
          rw [hl] at q
          exact iteT (q H1 e1)
        | true =>
          obtain ⟨⟨u2, rfl, hu2⟩, hin, _⟩ := lot_at (K := K) hlo hl
          rw [hl, Bool.true_and] at q
          obtain ⟨lk, ns⟩ := lo
          dsimp only at hu2 q hsl hin
          have hu3 := e1 _ _ hu2
          refine iteF ⟨_, rfl, u2, _, rfl, .inr (SqT.of hu3), _, rfl, _, _, rfl, rfl, rfl, _, rfl, ?_⟩
          rw [List.length_map, dvi, show decide (((ns.length : Nat) : Int) = (z : Int) + 1) = decide (ns.length = z + 1) from decide_eq_decide.mpr ⟨fun h => by omega, fun h => by omega⟩]
          cases hle : decide (ns.length = z + 1) with
          | false =>
            rw [hle] at q
            exact iteT (q H1 e1)
          | true =>
            rw [hle, Bool.true_and] at q
            obtain ⟨qs, hD, rq⟩ := id hW
            have hD1 := e1 _ _ hD
            refine iteF ⟨_, rfl, u2, rfl, ⟨_, SqT.of hu3⟩, fun C hC => ?_⟩
            refine lc_it (walk_tup (xs := ns.map nI)) (fun i H' => Ext H1 H' ∧ H' C = some (.lst (((ns.take i).filter fun j => !has ds j).map nI))) ⟨Ext.upd hC, upd_same⟩ (fun i H' _ pv => SqT.of (pv.1 _ _ hu3)) (fun i x H' H2 hi pv hy => ?_) (fun H' pv => ?_)
            · obtain ⟨e4, hC4⟩ := pv
              obtain ⟨rfl, hx⟩ := hy
              rw [List.getElem?_map] at hx
              obtain ⟨j, hj, rfl⟩ := Option.map_eq_some_iff.mp hx
              have hjn : j < ds.length := of_decide_eq_true (List.all_eq_true.mp hin j (List.mem_of_getElem? hj))
              obtain ⟨d, hd⟩ : ∃ d, ds[j]? = some d := ⟨_, List.getElem?_eq_getElem hjn⟩
              obtain ⟨x, hx, tq, rfl, ht⟩ := rq.got hd
              refine ⟨rfl, _, rfl, _, rfl, D, qs, (j : Int), .ref tq, rfl, rfl, SqL.of (e4 _ _ hD1), atI_nat hx, tq, _, 0, bV d.1, rfl, rfl, SqT.of (e4 _ _ (e1 _ _ ht)), rfl, rfl, _, rfl, ?_⟩
              have hbb : decide (bV d.1 = V.non) = !has ds j := by rw [(at_d hd).1]; cases d.1 <;> rfl
              rw [hbb, take_snoc hj, List.filter_append, List.filter_cons]
              cases he : has ds j with
              | true =>
                refine iteF ⟨e4, ?_⟩
                rw [hC4]
                simp
              | false =>
                refine iteT ⟨_, rfl, _, hC4, small_sz ?_, ext_mut e4 hC, ?_⟩
                · rw [List.length_map]
                  refine Nat.le_trans (List.length_filter_le _ _) ?_
                  rw [List.length_take]
                  omega
                · rw [upd_same, List.map_append]
                  rfl
            · obtain ⟨e4, hC4⟩ := pv
              rw [List.length_map, List.take_length] at hC4
              refine ⟨_, .inl ⟨_, SqL.of hC4, rfl⟩, ?_⟩
              rw [emp_map, emp_filter]
              simp only [Bool.not_not]
              have e14 := e1.trans e4
              cases hal : ns.all (has ds) with
              | false =>
                rw [hal] at q
                exact iteT (q H' e14)
              | true =>
                rw [hal, Bool.true_and] at q
                have hu4 := e4 _ _ hu3
                refine iteF ⟨_, rfl, u2, rfl, ⟨_, SqT.of hu4⟩, fun G hG => ?_⟩
                refine lc_it (walk_tup (xs := ns.map nI)) (fun i H5 => Ext H' H5 ∧ H5 G = some (.lst (((ns.take i).filter fun j => !decide (fin ds j ≤ t)).map nI))) ⟨Ext.upd hG, upd_same⟩ (fun i H5 _ pv => SqT.of (pv.1 _ _ hu4)) (fun i x H5 H6 hi pv hy => ?_) (fun H5 pv => ?_)
                · obtain ⟨e5, hG5⟩ := pv
                  obtain ⟨rfl, hx⟩ := hy
                  rw [List.getElem?_map] at hx
                  obtain ⟨j, hj, rfl⟩ := Option.map_eq_some_iff.mp hx
                  have hjm := List.mem_of_getElem? hj
                  have hjn : j < ds.length := of_decide_eq_true (List.all_eq_true.mp hin j hjm)
                  have hh : has ds j = true := List.all_eq_true.mp hal j hjm
                  obtain ⟨d, hd⟩ : ∃ d, ds[j]? = some d := ⟨_, List.getElem?_eq_getElem hjn⟩
                  obtain ⟨x, hx, tq, rfl, ht⟩ := rq.got hd
                  obtain ⟨a1, a2, a3, a4⟩ := at_d hd
                  rw [a1] at hh
                  obtain ⟨n, hn⟩ := Option.isSome_iff_exists.mp hh
                  have hfin : fin ds j = n + 2 * d.2.2 := by unfold fin; rw [a2, a4, hn]; rfl
                  have ht5 := e5 _ _ (e14 _ _ ht)
                  unfold w3 at ht5
                  rw [hn] at ht5
                  have hD5 := SqL.of (K := K) (e5 _ _ (e14 _ _ hD))
                  refine ⟨rfl, _, rfl, _, rfl, D, qs, (j : Int), .ref tq, rfl, rfl, hD5, atI_nat hx, tq, _, 0, .int n, rfl, rfl, SqT.of ht5, rfl, _, rfl, _, rfl, D, qs, (j : Int), .ref tq, rfl, rfl, hD5, atI_nat hx, tq, _, 2, .int d.2.2, rfl, rfl, SqT.of ht5, rfl, _, _, rfl, rfl, .inl ⟨by decide, by decide⟩, _, _, rfl, rfl, _, rfl, _, _, rfl, rfl, _, rfl, ?_⟩
                  rw [← hfin]
                  rw [take_snoc hj, List.filter_append, List.filter_cons]
                  have hgt : decide (fin ds j > t) = !decide (fin ds j ≤ t) := by
                    rw [Bool.eq_iff_iff]
                    simp
                  rw [hgt]
                  cases he : decide (fin ds j ≤ t) with
                  | true =>
                    refine iteF ⟨e5, ?_⟩
                    rw [hG5]
                    simp
                  | false =>
                    refine iteT ⟨_, rfl, _, hG5, small_sz ?_, ext_mut e5 hG, ?_⟩
                    · rw [List.length_map]
                      refine Nat.le_trans (List.length_filter_le _ _) ?_
                      rw [List.length_take]
                      omega
                    · rw [upd_same, List.map_append]
                      rfl
                · obtain ⟨e5, hG5⟩ := pv
                  rw [List.length_map, List.take_length] at hG5
                  refine ⟨_, .inl ⟨_, SqL.of hG5, rfl⟩, ?_⟩
                  rw [emp_map, emp_filter]
                  simp only [Bool.not_not]
                  exact q H5 (e14.trans e5)
end
end K18

set_option Elab.async false
set_option maxRecDepth 100000
set_option maxHeartbeats 4000000
namespace K18
open PySem PySem.Spec PyProof.Rows L2
section
variable {b s : Addr} {N : Nat} {H H' : Hp}
theorem nls (hst : StAt H b s N) {x : Addr} {o : HO} (h : H x = some o) (hn : ∀ xs, o ≠ .lst xs) : x ≠ b ∧ x ≠ s := by
  obtain ⟨ns, i, h1, h2, _⟩ := hst
  constructor
  · rintro rfl
    rw [h1] at h
    cases h
    exact hn _ rfl
  · rintro rfl
    rw [h2] at h
    cases h
    exact hn _ rfl
theorem kt_s (hst : StAt H b s N) (e : ExtS b s H H') : KT H H' := fun t xs h => by
  obtain ⟨n1, n2⟩ := nls hst h (fun _ z => nomatch z)
  exact e _ _ n1 n2 h
theorem wl_s {D : Addr} {ds : List Wd} (hst : StAt H b s N) (h : Wl H D ds) (nb : D ≠ b) (ns : D ≠ s) (e : ExtS b s H H') : Wl H' D ds := by
  obtain ⟨qs, h1, h2⟩ := h
  exact ⟨qs, e _ _ nb ns h1, h2.to fun v d ⟨t, a, c⟩ => ⟨t, a, kt_s hst e _ _ c⟩⟩
end
section
variable {P : Program} {w : World} {K : PySem.W.Frag} {mg : Str → Option Value} {base : Heap} {A : Ad}
section
variable {b s : Addr} {N : Nat} {H H' : Hp}
theorem sqT_s {a : Addr} {xs : List V} (hst : StAt H b s N) (e : ExtS b s H H') (h : SqT K H a xs) : SqT K H' a xs := by
  rcases h with (h | ⟨o, h⟩) | h
  · obtain ⟨n1, n2⟩ := nls hst h (fun _ z => nomatch z)
    exact .inl (.inl (e _ _ n1 n2 h))
  · obtain ⟨n1, n2⟩ := nls hst h (fun _ z => nomatch z)
    exact .inl (.inr ⟨o, e _ _ n1 n2 h⟩)
  · exact .inr h
theorem wd_s {p : Addr} {d : Wd} (hst : StAt H b s N) (e : ExtS b s H H') (h : WayD K A H p d) : WayD K A H' p d := by
  obtain ⟨dx, T, xs, h1, h2, h3⟩ := h
  cases h3
  obtain ⟨n1, n2⟩ := nls hst h1 (fun _ z => nomatch z)
  exact ⟨dx, T, [], e _ _ n1 n2 h1, sqT_s hst e h2, .nil⟩
theorem ways_s {ws : List V} {ds : List Wd} (hst : StAt H b s N) (e : ExtS b s H H') (h : Ways K A H ws ds) : Ways K A H' ws ds := ⟨h.1, fun i x d h1 h2 => by
  obtain ⟨q, r, hw⟩ := h.2 i x d h1 h2
  exact ⟨q, r, wd_s hst e hw⟩⟩
theorem race_s {p : Addr} {ds : List Wd} {z : Int} (hst : StAt H b s N) (e : ExtS b s H H') (h : RaceD K A H p ds z) : RaceD K A H' p ds z := by
  obtain ⟨dx, T, ws, h1, h2, h3⟩ := h
  obtain ⟨n1, n2⟩ := nls hst h1 (fun _ z => nomatch z)
  exact ⟨dx, T, ws, e _ _ n1 n2 h1, sqT_s hst e h2, ways_s hst e h3⟩
end
def spMom : Sp := fun vs H Q _ => ∃ (b s : Addr) (N : Nat) (D : Addr) (ds : List Wd) (w : Nat), vs = [.ref b, .ref D, nI w] ∧ StAt H b s N ∧ N ≤ 900000 ∧ Wl H D ds ∧ D ≠ b ∧ D ≠ s ∧ Gds ds ∧ w < ds.length ∧ ∀ t H', StAt H' b s (N + 2) → ExtS b s H H' → Q (.int t) H'
theorem ok_moment {f : Addr} {fd : FuncData} (F : Fun K "_law_moment" "_law_moment" s__law_moment f fd) (O__law_draw : Own P w K mg base CX0 "_law_draw" 1 pm__law_draw spDraw) : FnOk P w K mg base CX0 2 f fd pm__law_moment spMom := by
  refine F.ok sc__law_moment (fun vs H Q E h => ?_) (fun cdv A' outer sh H vs Q E hr h => ?_)
  · obtain ⟨_, _, _, _, _, _, rfl, _⟩ := h
    rfl
  · obtain ⟨b, s, N, D, ds, w, rfl, hst, hN, hW, nb, ns, hg, hw, k⟩ := h
    refine ⟨_, pss_cons (ps_set (i := 3) sc__law_moment.nd rfl (Or.inl rfl) (pe_ix ix_list (pv 1) (pv 2) (fun _ _ => rfl)))
      (pss_cons (ps_if (PW.pt (pw_or (pt_cmpR op_isN (pe_ix ix_tup (pv 3) (pe_int) (fun _ _ => rfl)) (pe_non) (nomark _)) (pw_or1 (pt_cmpR op_eq (pe_own O__law_draw (hr.mono (by decide)) pass0 (pa_cons (pv 0) (pa_cons (pe_int) pa_nil))) (pe_int) (nomark _))))) (pss_one (ps_ret (pe_own O__law_draw (hr.mono (by decide)) pass0 (pa_cons (pv 0) (pa_cons (pe_int) pa_nil))))) (pss_nil))
      (pss_one (ps_ret (pe_op op_add (pe_op op_sub (pe_op op_add (pe_ix ix_tup (pv 3) (pe_int) (fun _ _ => rfl)) (pe_op op_mul (pe_int) (pe_ix ix_tup (pv 3) (pe_int) (fun _ _ => rfl)))) (pe_int)) (pe_own O__law_draw (hr.mono (by decide)) pass0 (pa_cons (pv 0) (pa_cons (pe_op op_add (pe_op op_mul (pe_int) (pe_op op_sub (pe_ix ix_tup (pv 3) (pe_int) (fun _ _ => rfl)) (pe_ix ix_tup (pv 3) (pe_int) (fun _ _ => rfl)))) (pe_int)) pa_nil))))))), ?_⟩
    obtain ⟨qs, hD, rq⟩ := id hW
    obtain ⟨d, hd⟩ : ∃ d, ds[w]? = some d := ⟨_, List.getElem?_eq_getElem hw⟩
    obtain ⟨x, hx, tq, rfl, ht⟩ := rq.got hd
    obtain ⟨g1, g2, g3, g4⟩ := hg w d hd
    refine ⟨_, rfl, _, rfl, D, qs, (w : Int), .ref tq, rfl, rfl, SqL.of hD, atI_nat hx, ?_⟩
    refine ⟨_, rfl, tq, _, 0, bV d.1, rfl, rfl, SqT.of ht, rfl, rfl, _, rfl, ?_⟩
    cases hb : d.1 with
    | none => exact iteT (iteT ⟨_, rfl, b, s, N, 18, rfl, hst, by omega, by omega, by omega, fun n H1 _ _ st1 x1 => k _ _ (st1.le (by omega)) x1⟩)
    | some n0 =>
      have hb0 := g1 n0 hb
      unfold w3 at ht
      rw [hb] at ht
      refine iteF ⟨_, rfl, b, s, N, 4, rfl, hst, by omega, by omega, by omega, fun n H1 _ _ st1 x1 => ⟨rfl, _, rfl, ?_⟩⟩
      have ht1 := kt_s hst x1 _ _ ht
      by_cases h3 : n = 3
      · rw [show decide (V.int n = V.int 3) = true by rw [dvi]; exact decide_eq_true h3]
        exact iteT ⟨_, rfl, b, s, N + 1, 18, rfl, st1, by omega, by omega, by omega, fun n H2 _ _ st2 x2 => k _ _ st2 (x1.trans x2)⟩
      · rw [show decide (V.int n = V.int 3) = false by rw [dvi]; exact decide_eq_false h3]
        refine iteF ⟨_, rfl, tq, _, 0, .int n0, rfl, rfl, SqT.of ht1, rfl, _, rfl, tq, _, 1, .int d.2.1, rfl, rfl, SqT.of ht1, rfl, _, _, rfl, rfl, .inl ⟨by decide, by decide⟩, _, _, rfl, rfl, _, _, rfl, rfl, ?_⟩
        refine ⟨_, rfl, _, rfl, tq, _, 2, .int d.2.2, rfl, rfl, SqT.of ht1, rfl, _, rfl, tq, _, 1, .int d.2.1, rfl, rfl, SqT.of ht1, rfl, _, _, rfl, rfl, _, _, rfl, rfl, .inl ⟨by decide, by decide⟩, _, _, rfl, rfl, ?_⟩
        exact ⟨b, s, N + 1, _, rfl, st1, by omega, by omega, by omega, fun n H2 _ _ st2 x2 => ⟨_, _, rfl, rfl, k _ _ st2 (x1.trans x2)⟩⟩
def spLotD : Sp := fun vs H Q _ => ∃ (b s : Addr) (N n : Nat), vs = [.ref b, .int (n : Int)] ∧ StAt H b s N ∧ N ≤ 800000 ∧ n ≤ 60 ∧ ∀ x lo H', StAt H' b s (N + 61) → ExtS b s H H' → LoAt H' x lo → lo.2.length ≤ n → x ≠ .ref b → x ≠ .ref s → Q x H'
theorem ok_lotD {f : Addr} {fd : FuncData} (F : Fun K "_law_lot" "_law_lot" s__law_lot f fd) (T : Txt K mg A) (O__law_draw : Own P w K mg base CX0 "_law_draw" 1 pm__law_draw spDraw) : FnOk P w K mg base CX0 2 f fd pm__law_lot spLotD := by
  refine F.ok sc__law_lot (fun vs H Q E h => ?_) (fun cdv A' outer sh H vs Q E hr h => ?_)
  · obtain ⟨_, _, _, _, rfl, _⟩ := h
    rfl
  · obtain ⟨b, s, N, n, rfl, st, hN, hn, k⟩ := h
    refine ⟨_, pss_cons (ps_set (i := 2) sc__law_lot.nd rfl (Or.inl rfl) (pe_callTy call_tuple_of (by rfl) T.n_tuple (by decide +kernel) (pa_cons (pe_lc (own := [("_law_k", 3)]) (g := gName 3) (by rfl) sc__law_lot.nd (pi_range1 rfl T.n_range (pa_cons (pv 1) pa_nil)) (blkOk_by (own := [("_law_k", 3)]) (N := nm__law_lot) (sc := defScope s__law_lot) (by decide +kernel)) (fun _ _ _ _ _ => pg_name (i := 3) sc__law_lot.nd rfl (Or.inl rfl)) (fun s1 H1 C1 cl fp => pts_one (pt_cmpR op_eq (pe_own O__law_draw (hr.mono (by decide)) pass0 (pa_cons (pv 0) (pa_cons (pe_int) pa_nil))) (pe_int) (nomark _))) (fun s1 H1 C1 cl fp => pv 3)) pa_nil)))
      (pss_one (ps_ret (pe_ix ix_tup (pe_tup (pa_cons (pv 2) (pa_cons (pv 2) (pa_cons (pv 2) (pa_cons (pe_revT (pv 2)) (pa_cons (pe_callTy call_list_of (by rfl) T.n_list (by decide +kernel) (pa_cons (pv 2) pa_nil)) (pa_cons (pe_op op_catE (pv 2) (pe_tup (pa_cons (pe_bl) pa_nil))) (pa_cons (pe_non) pa_nil)))))))) (pe_own O__law_draw (hr.mono (by decide)) pass0 (pa_cons (pv 0) (pa_cons (pe_int) pa_nil))) (fun _ _ => rfl)))), ?_⟩
    refine ⟨_, rfl, (n : Int), rfl, by omega, by omega, fun D hD => ?_⟩
    obtain ⟨nb, ns⟩ := st.new hD
    rw [Int.toNat_natCast]
    refine lc_range (fun i H' => ∃ ms : List Nat, H' D = some (.lst (ms.map nI)) ∧ ms.length ≤ i ∧ StAt H' b s (N + i) ∧ ExtS b s H H') ⟨[], upd_same, Nat.zero_le _, st.ext (Ext.upd hD), Ext.s (Ext.upd hD)⟩ (fun i H2 hi pv => ?_) (fun H2 pv => ?_)
    · obtain ⟨ms, hl, hlen, st2, x2⟩ := pv
      refine ⟨rfl, _, rfl, b, s, _, 2, rfl, st2, by omega, by omega, by omega, fun y H3 y0 y2 st3 x3 => ⟨rfl, _, rfl, ?_⟩⟩
      have hl3 := x3 D _ nb ns hl
      cases hy : decide (V.int y = V.int 1) with
      | false => exact iteF ⟨ms, hl3, by omega, st3, x2.trans x3⟩
      | true =>
        refine iteT ⟨_, rfl, _, hl3, small_sz ?_, ms ++ [i], ?_, ?_, st3.upd nb ns, (x2.trans x3).mut hD⟩
        · rw [List.length_map]
          omega
        · rw [upd_same, List.map_append, Int.zero_add]
          rfl
        · rw [List.length_append]
          show ms.length + 1 ≤ i + 1
          omega
    · obtain ⟨ms, hl, hlen, st2, x2⟩ := pv
      refine ⟨D, _, rfl, .inl ⟨SqL.of hl, fun u hu => ?_⟩⟩
      have e3 := Ext.upd (o := .tup (ms.map nI)) hu
      have st3 := st2.ext e3
      have x3 := x2.trans (Ext.s e3)
      have hu3 : upd H2 u (.tup (ms.map nI)) u = some (.tup (ms.map nI)) := upd_same
      generalize upd H2 u (.tup (ms.map nI)) = H3 at st3 x3 hu3 ⊢
      clear st2 x2 hl e3
      refine ⟨_, rfl, _, rfl, _, rfl, _, rfl, u, _, rfl, SqT.of hu3, fun r hr' => ⟨_, rfl, u, _, rfl, .inr (SqT.of (Ext.upd hr' _ _ hu3)), fun l hl => ⟨_, rfl, by show 1 ≤ sizeLine; decide, fun t1 ht1 => ?_⟩⟩⟩
      have e4 := Ext.upd (o := .tup (ms.map nI).reverse) hr'
      have e5 := Ext.upd (o := .lst (ms.map nI)) hl
      have e6 := Ext.upd (o := .tup [.bl true]) ht1
      have ll := (st3.ext e4).new hl
      refine ⟨u, t1, ms.map nI, [.bl true], rfl, rfl, e6 _ _ (e5 _ _ (e4 _ _ hu3)), upd_same, ?_, fun c H7 e7 hc => ?_⟩
      · show (ms.map nI).length + 1 ≤ sizeLine
        rw [List.length_map]
        exact Nat.le_trans (show ms.length + 1 ≤ 2000 by omega) (by decide)
      have e37 := ((e4.trans e5).trans e6).trans e7
      have hr7 : H7 r = some (.tup (ms.reverse.map nI)) := by
        rw [List.map_reverse]
        exact e7 _ _ (e6 _ _ (e5 _ _ upd_same))
      have hl7 : H7 l = some (.lst (ms.map nI)) := e7 _ _ (e6 _ _ upd_same)
      have hu7 := e37 _ _ hu3
      refine ⟨by show 7 ≤ sizeLine; decide, fun tt htt => ?_⟩
      have e8 := Ext.upd (o := .tup [V.ref u, .ref u, .ref u, .ref r, .ref l, .ref c, .non]) htt
      have e38 := e37.trans e8
      have st8 := st3.ext e38
      refine ⟨_, rfl, b, s, _, 7, rfl, st8, by omega, by omega, by omega, fun m H9 m0 m7 st9 x9 => ?_⟩
      have kt := kt_s st8 x9
      obtain ⟨j, rfl⟩ : ∃ j : Nat, m = (j : Int) := ⟨m.toNat, by omega⟩
      have ctt := kt tt _ upd_same
      have cu := kt _ _ (e8 _ _ hu7)
      have cr := kt _ _ (e8 _ _ hr7)
      have cl := x9 _ _ ll.1 ll.2 (e8 _ _ hl7)
      have cc := kt _ _ (e8 _ _ hc)
      have hy : ∃ (y : V) (lo : Lo), ([V.ref u, .ref u, .ref u, .ref r, .ref l, .ref c, .non] : List V)[j]? = some y ∧ LoAt H9 y lo ∧ lo.2.length ≤ n ∧ y ≠ .ref b ∧ y ≠ .ref s := by
        have ne : ∀ {a b : Addr}, a ≠ b → V.ref a ≠ V.ref b := fun h e => h (by injection e)
        have nu := nls st8 (e8 _ _ hu7) (fun _ z => nomatch z)
        have nr := nls st8 (e8 _ _ hr7) (fun _ z => nomatch z)
        have nc := nls st8 (e8 _ _ hc) (fun _ z => nomatch z)
        rcases j with _ | _ | _ | _ | _ | _ | _ | j
        · exact ⟨_, (0, ms), rfl, ⟨u, rfl, cu⟩, hlen, ne nu.1, ne nu.2⟩
        · exact ⟨_, (0, ms), rfl, ⟨u, rfl, cu⟩, hlen, ne nu.1, ne nu.2⟩
        · exact ⟨_, (0, ms), rfl, ⟨u, rfl, cu⟩, hlen, ne nu.1, ne nu.2⟩
        · exact ⟨_, (0, ms.reverse), rfl, ⟨r, rfl, cr⟩, by show ms.reverse.length ≤ n; rw [List.length_reverse]; exact hlen, ne nr.1, ne nr.2⟩
        · exact ⟨_, (1, ms), rfl, ⟨l, rfl, cl⟩, hlen, ne ll.1, ne ll.2⟩
        · exact ⟨_, (2, ms), rfl, ⟨c, rfl, cc⟩, hlen, ne nc.1, ne nc.2⟩
        · exact ⟨_, (3, []), rfl, rfl, Nat.zero_le _, (fun e => by cases e), fun e => by cases e⟩
        · exact absurd m7 (by omega)
      obtain ⟨y, lo, hyj, hlo, hle, n1, n2⟩ := hy
      exact ⟨tt, _, (j : Int), y, rfl, rfl, SqT.of ctt, atI_nat hyj, k y lo H9 (st9.le (by omega)) ((x3.trans (Ext.s e38)).trans x9) hlo hle n1 n2⟩
theorem LoAt.s {b s : Addr} {N : Nat} {H H' : Hp} {v : V} {lo : Lo} (st : StAt H b s N) (x : ExtS b s H H') (h : LoAt H v lo) (nb : v ≠ .ref b) (ns : v ≠ .ref s) : LoAt H' v lo := by
  obtain ⟨k, ms⟩ := lo
  rcases k with _ | _ | _ | k
  · obtain ⟨t, h1, h2⟩ := h; exact ⟨t, h1, kt_s st x _ _ h2⟩
  · obtain ⟨t, rfl, h2⟩ := h; exact ⟨t, rfl, x _ _ (fun e => nb (by rw [e])) (fun e => ns (by rw [e])) h2⟩
  · obtain ⟨t, h1, h2⟩ := h; exact ⟨t, h1, kt_s st x _ _ h2⟩
  · exact h
/-- a run that may be bent, as the law draws it: the same entries as a tuple or a list, or no run at all -/
abbrev Rl := (Bool × List En) ⊕ PyData
def toX : Rl → Rx
  | .inl (b, es) => .inl (b, es.map Sum.inl)
  | .inr y => .inr y
def RlAt (H : Hp) (v : V) : Rl → Prop
  | .inl (b, es) => ∃ t vs, v = .ref t ∧ H t = some (if b = true then .tup vs else .lst vs) ∧ Rel2 (EnAt H) vs es
  | .inr y => (v = .non ∧ y = .none) ∨ (v = .int 0 ∧ y = .int 0)
def rlLen : Rl → Nat
  | .inl (_, es) => es.length
  | .inr _ => 0
theorem RlAt.k {H H' : Hp} {v : V} {rl : Rl} (h : RlAt H v rl) (e : Ext H H') : RlAt H' v rl := by
  rcases rl with ⟨b, es⟩ | y
  · obtain ⟨t, vs, rfl, h2, h3⟩ := h
    exact ⟨t, vs, rfl, e _ _ h2, h3.to (EnAt.k (Ext.kt e))⟩
  · exact h
theorem RlAt.s {b s : Addr} {N : Nat} {H H' : Hp} {v : V} {rl : Rl} (st : StAt H b s N) (x : ExtS b s H H') (h : RlAt H v rl) (nb : v ≠ .ref b) (ns : v ≠ .ref s) : RlAt H' v rl := by
  rcases rl with ⟨c, es⟩ | y
  · obtain ⟨t, vs, rfl, h2, h3⟩ := h
    exact ⟨t, vs, rfl, x _ _ (fun e => nb (by rw [e])) (fun e => ns (by rw [e])) h2, h3.to (EnAt.k (kt_s st x))⟩
  · exact h
theorem RlAt.rx {H : Hp} {v : V} {rl : Rl} (h : RlAt H v rl) (hl : rlLen rl ≤ 1000) : RxAt K H v (toX rl) := by
  rcases rl with ⟨c, es⟩ | y
  · obtain ⟨t, vs, rfl, h2, h3⟩ := h
    exact ⟨⟨t, vs, rfl, h2, inl_rel h3⟩, by show (es.map Sum.inl).length ≤ 1000; rw [List.length_map]; exact hl⟩
  · rcases h with ⟨rfl, rfl⟩ | ⟨rfl, rfl⟩
    · exact ⟨.non, rfl⟩
    · exact ⟨.int _, rfl⟩
def spRunD : Sp := fun vs H Q _ => ∃ (b s : Addr) (N : Nat) (L : Addr) (ys : List V) (rs : List (List En)), vs = [.ref b, .ref L] ∧ StAt H b s N ∧ N ≤ 800000 ∧ H L = some (.lst ys) ∧ L ≠ b ∧ L ≠ s ∧ Rel2 (RnAt H) ys rs ∧ 1 ≤ rs.length ∧ rs.length ≤ 1000 ∧ (∀ es ∈ rs, es.length ≤ 60) ∧ ∀ x rl H', StAt H' b s (N + 2) → ExtS b s H H' → RlAt H' x rl → rlLen rl ≤ 61 → x ≠ .ref b → x ≠ .ref s → Q x H'
theorem ok_runD {f : Addr} {fd : FuncData} (F : Fun K "_law_run" "_law_run" s__law_run f fd) (T : Txt K mg A) (O__law_draw : Own P w K mg base CX0 "_law_draw" 1 pm__law_draw spDraw) : FnOk P w K mg base CX0 2 f fd pm__law_run spRunD := by
  refine F.ok sc__law_run (fun vs H Q E h => ?_) (fun cdv A' outer sh H vs Q E hr h => ?_)
  · obtain ⟨_, _, _, _, _, _, rfl, _⟩ := h
    rfl
  · obtain ⟨b, s, N, L, ys, rs, rfl, st, hN, hL, Lb, Ls, rys, r1, r2, hel, k⟩ := h
    refine ⟨_, pss_cons (ps_set (i := 2) sc__law_run.nd rfl (Or.inl rfl) (pe_ix ix_list (pv 1) (pe_own O__law_draw (hr.mono (by decide)) pass0 (pa_cons (pv 0) (pa_cons (pe_callB call_len_seq (by rfl) T.n_len (by decide +kernel) (pa_cons (pv 1) pa_nil)) pa_nil))) (fun _ _ => rfl)))
      (pss_one (ps_ret (pe_ix ix_tup (pe_tup (pa_cons (pv 2) (pa_cons (pv 2) (pa_cons (pv 2) (pa_cons (pv 2) (pa_cons (pe_callTy call_list_of (by rfl) T.n_list (by decide +kernel) (pa_cons (pv 2) pa_nil)) (pa_cons (pe_op op_catE (pv 2) (pe_tup (pa_cons (pe_non) pa_nil))) (pa_cons (pe_non) (pa_cons (pe_int) pa_nil))))))))) (pe_own O__law_draw (hr.mono (by decide)) pass0 (pa_cons (pv 0) (pa_cons (pe_int) pa_nil))) (fun _ _ => rfl)))), ?_⟩
    have hyl : ys.length = rs.length := rys.len
    refine ⟨_, rfl, _, rfl, _, rfl, L, ys, rfl, .inl (SqL.of hL), b, s, N, (ys.length : Int), rfl, st, by omega, by omega, by omega, fun i' H1 i0 i1 st1 x1 => ?_⟩
    obtain ⟨i, rfl⟩ : ∃ i : Nat, i' = (i : Int) := ⟨i'.toNat, by omega⟩
    obtain ⟨es, hes⟩ : ∃ es, rs[i]? = some es := ⟨_, List.getElem?_eq_getElem (by omega)⟩
    obtain ⟨x, hx, hrn⟩ := rys.got hes
    have hle := hel es (List.mem_of_getElem? hes)
    have hL1 := x1 L _ Lb Ls hL
    refine ⟨L, ys, (i : Int), x, rfl, rfl, SqL.of hL1, atI_nat hx, ?_⟩
    have kt1 := kt_s st x1
    obtain ⟨t, us, rfl, ht, rr⟩ := RnAt.k kt1 _ _ hrn
    have nt := nls st1 ht (fun _ z => nomatch z)
    refine ⟨_, rfl, _, rfl, _, rfl, _, rfl, _, rfl, t, us, rfl, .inr (SqT.of ht), fun l hl => ⟨_, rfl, by show 1 ≤ sizeLine; decide, fun t1 ht1 => ?_⟩⟩
    have e5 := Ext.upd (o := .lst us) hl
    have e6 := Ext.upd (o := .tup [.non]) ht1
    have ll := st1.new hl
    have hul : us.length = es.length := rr.len
    refine ⟨t, t1, us, [.non], rfl, rfl, e6 _ _ (e5 _ _ ht), upd_same, ?_, fun c H7 e7 hc => ?_⟩
    · show us.length + 1 ≤ sizeLine
      exact Nat.le_trans (show us.length + 1 ≤ 2000 by omega) (by decide)
    have e37 := (e5.trans e6).trans e7
    have hl7 : H7 l = some (.lst us) := e7 _ _ (e6 _ _ upd_same)
    have ht7 := e37 _ _ ht
    refine ⟨by show 8 ≤ sizeLine; decide, fun tt htt => ?_⟩
    have e8 := Ext.upd (o := .tup [V.ref t, .ref t, .ref t, .ref t, .ref l, .ref c, .non, .int 0]) htt
    have e38 := e37.trans e8
    have st8 := st1.ext e38
    refine ⟨_, rfl, b, s, _, 8, rfl, st8, by omega, by omega, by omega, fun m H9 m0 m7 st9 x9 => ?_⟩
    have kt := kt_s st8 x9
    have kt19 := (Ext.kt e38).trans kt
    obtain ⟨j, rfl⟩ : ∃ j : Nat, m = (j : Int) := ⟨m.toNat, by omega⟩
    have ctt := kt tt _ upd_same
    have cu := kt _ _ (e8 _ _ ht7)
    have cl := x9 _ _ ll.1 ll.2 (e8 _ _ hl7)
    have cc := kt _ _ (e8 _ _ hc)
    have rr9 := rr.to (EnAt.k kt19)
    have nc := nls st8 (e8 _ _ hc) (fun _ z => nomatch z)
    have ne : ∀ {a b : Addr}, a ≠ b → V.ref a ≠ V.ref b := fun h e => h (by injection e)
    have hy : ∃ (y : V) (rl : Rl), ([V.ref t, .ref t, .ref t, .ref t, .ref l, .ref c, .non, .int 0] : List V)[j]? = some y ∧ RlAt H9 y rl ∧ rlLen rl ≤ 61 ∧ y ≠ .ref b ∧ y ≠ .ref s := by
      have h0 : ∀ j : Nat, ([V.ref t, .ref t, .ref t, .ref t, .ref l, .ref c, .non, .int 0] : List V)[j]? = some (V.ref t) → ∃ (y : V) (rl : Rl), ([V.ref t, .ref t, .ref t, .ref t, .ref l, .ref c, .non, .int 0] : List V)[j]? = some y ∧ RlAt H9 y rl ∧ rlLen rl ≤ 61 ∧ y ≠ .ref b ∧ y ≠ .ref s := fun j h => ⟨_, .inl (true, es), h, ⟨t, us, rfl, cu, rr9⟩, by show es.length ≤ 61; omega, ne nt.1, ne nt.2⟩
      rcases j with _ | _ | _ | _ | _ | _ | _ | _ | j
      · exact h0 0 rfl
      · exact h0 1 rfl
      · exact h0 2 rfl
      · exact h0 3 rfl
      · exact ⟨_, .inl (false, es), rfl, ⟨l, us, rfl, cl, rr9⟩, by show es.length ≤ 61; omega, ne ll.1, ne ll.2⟩
      · exact ⟨_, .inl (true, es ++ [none]), rfl, ⟨c, us ++ [V.non], rfl, cc, Rel2.cat rr9 (Rel2.one (a := (none : En)) (show EnAt H9 .non none from rfl))⟩, by show (es ++ [none]).length ≤ 61; rw [List.length_append, List.length_singleton]; omega, ne nc.1, ne nc.2⟩
      · exact ⟨_, .inr .none, rfl, .inl ⟨rfl, rfl⟩, Nat.zero_le _, (fun e => by cases e), fun e => by cases e⟩
      · exact ⟨_, .inr (.int 0), rfl, .inr ⟨rfl, rfl⟩, Nat.zero_le _, (fun e => by cases e), fun e => by cases e⟩
      · exact absurd m7 (by omega)
    obtain ⟨y, rl, hyj, hrl, hle2, n1, n2⟩ := hy
    exact ⟨tt, _, (j : Int), y, rfl, rfl, SqT.of ctt, atI_nat hyj, k y rl H9 (st9.le (by omega)) ((x1.trans (Ext.s e38)).trans x9) hrl hle2 n1 n2⟩
end
end K18

set_option Elab.async false
set_option maxRecDepth 100000
set_option maxHeartbeats 4000000
namespace K18
open PySem PySem.Spec PyProof.Rows L2
def endsT (ds : List Wd) (t : Int) (es : List En) : Bool := match out ds es with | some (_, m) => decide (m = t) | none => false
section
variable {P : Program} {w : World} {K : PySem.W.Frag} {mg : Str → Option Value} {base : Heap} {A : Ad}
def spShown : Sp := fun vs H Q _ => ∃ (b s : Addr) (N : Nat) (D L : Addr) (ds : List Wd) (z : Nat) (t : Int) (ys : List V) (rs : List (List En)), vs = [.ref b, .ref D, .int (z : Int), .int t, .ref L] ∧ StAt H b s N ∧ N ≤ 700000 ∧ Wl H D ds ∧ D ≠ b ∧ D ≠ s ∧ ds.length ≤ 60 ∧ H L = some (.lst ys) ∧ L ≠ b ∧ L ≠ s ∧ Rel2 (RnAt H) ys rs ∧ 1 ≤ rs.length ∧ rs.length ≤ 1000 ∧ (∀ es ∈ rs, Run ds es) ∧
  ∀ T x y rl lo H', StAt H' b s (N + 70) → ExtS b s H H' → H' T = some (.tup [x, y]) → RlAt H' x rl → rlLen rl ≤ 61 → LoAt H' y lo → lo.2.length ≤ 60 → Q (.ref T) H'
theorem ok_shown {f : Addr} {fd : FuncData} (F : Fun K "_law_shown" "_law_shown" s__law_shown f fd) (T : Txt K mg A) (O__law_draw : Own P w K mg base CX0 "_law_draw" 1 pm__law_draw spDraw) (O__law_outcome : Own P w K mg base CX0 "_law_outcome" 1 pm__law_outcome spOut) (O__law_run : Own P w K mg base CX0 "_law_run" 2 pm__law_run spRunD) (O__law_lot : Own P w K mg base CX0 "_law_lot" 2 pm__law_lot spLotD) : FnOk P w K mg base CX0 3 f fd pm__law_shown spShown := by
  refine F.ok sc__law_shown (fun vs H Q E h => ?_) (fun cdv A' outer sh H vs Q E hr h => ?_)
  · obtain ⟨_, _, _, _, _, _, _, _, _, _, rfl, _⟩ := h
    rfl
  · obtain ⟨b, s, N, D, L, ds, z, t, ys, rs, rfl, st, hN, hW, Db, Ds, hsm, hL, Lb, Ls, rys, r1, r2, hrun, k⟩ := h
    refine ⟨_, pss_cons (ps_setLc (i := 5) (own := [("_law_run_here", 7)]) (g := gName 7) (by rfl) sc__law_shown.nd rfl rfl (sw_true rfl rfl rfl (by decide +kernel)) (pi_list (pv 4)) (blkOk_by (own := [("_law_run_here", 7)]) (N := nm__law_shown) (sc := defScope s__law_shown) (by decide +kernel)) (fun _ _ _ _ _ => pg_name (i := 7) sc__law_shown.nd rfl (Or.inl rfl)) (fun s1 H1 C1 cl fp => pts_one (pt_cmpR op_eq (pe_ix (ix_tupK (K := K) rfl) (pe_own O__law_outcome (hr.mono (by decide)) pass0 (pa_cons (pv 1) (pa_cons (pv 7) pa_nil))) (pe_int) (fun _ _ => rfl)) (pv 3) (nomark _))) (fun s1 H1 C1 cl fp => pv 7))
      (pss_cons (ps_set (i := 6) sc__law_shown.nd rfl (Or.inl rfl) (pe_slice sl_list (pe_lc (own := [("_law_k", 8)]) (g := gName 8) (by rfl) sc__law_shown.nd (pi_range1 rfl T.n_range (pa_cons (pe_callB call_len_seq (by rfl) T.n_len (by decide +kernel) (pa_cons (pv 1) pa_nil)) pa_nil)) (blkOk_by (own := [("_law_k", 8)]) (N := nm__law_shown) (sc := defScope s__law_shown) (by decide +kernel)) (fun _ _ _ _ _ => pg_name (i := 8) sc__law_shown.nd rfl (Or.inl rfl)) (fun s1 H1 C1 cl fp => pts_one (PW.pt (pw_and (pt_cmpR op_notN (pe_ix (ix_tupK (K := K) rfl) (pe_ix (ix_listK (K := K) rfl) (pv 1) (pv 8) (fun _ _ => rfl)) (pe_int) (fun _ _ => rfl)) (pe_non) (nomark _)) (pw_and1 (pt_cmpR op_le (pe_op op_add (pe_ix (ix_tupK (K := K) rfl) (pe_ix (ix_listK (K := K) rfl) (pv 1) (pv 8) (fun _ _ => rfl)) (pe_int) (fun _ _ => rfl)) (pe_op op_mul (pe_int) (pe_ix (ix_tupK (K := K) rfl) (pe_ix (ix_listK (K := K) rfl) (pv 1) (pv 8) (fun _ _ => rfl)) (pe_int) (fun _ _ => rfl)))) (pv 3) (nomark _)))))) (fun s1 H1 C1 cl fp => pv 8)) po_none (po_some (pe_op op_add (pv 2) (pe_int)))))
      (pss_cons (ps_if (PW.pt (pw_or (pt_not (pt_truth (pv 5) (by intro _; rfl))) (pw_or1 (pt_cmpR op_eq (pe_own O__law_draw (hr.mono (by decide)) pass0 (pa_cons (pv 0) (pa_cons (pe_int) pa_nil))) (pe_int) (nomark _))))) (pss_one (ps_ret (pe_tup (pa_cons (pe_own O__law_run (hr.mono (by decide)) pass0 (pa_cons (pv 0) (pa_cons (pv 4) pa_nil))) (pa_cons (pe_own O__law_lot (hr.mono (by decide)) pass0 (pa_cons (pv 0) (pa_cons (pe_callB call_len_seq (by rfl) T.n_len (by decide +kernel) (pa_cons (pv 1) pa_nil)) pa_nil))) pa_nil))))) (pss_nil))
      (pss_one (ps_ret (pe_tup (pa_cons (pe_own O__law_run (hr.mono (by decide)) pass0 (pa_cons (pv 0) (pa_cons (pv 5) pa_nil))) (pa_cons (pe_ix ix_tup (pe_tup (pa_cons (pe_callTy call_tuple_of (by rfl) T.n_tuple (by decide +kernel) (pa_cons (pv 6) pa_nil)) (pa_cons (pe_callTy call_tuple_of (by rfl) T.n_tuple (by decide +kernel) (pa_cons (pv 6) pa_nil)) (pa_cons (pe_own O__law_lot (hr.mono (by decide)) pass0 (pa_cons (pv 0) (pa_cons (pe_callB call_len_seq (by rfl) T.n_len (by decide +kernel) (pa_cons (pv 1) pa_nil)) pa_nil))) pa_nil)))) (pe_own O__law_draw (hr.mono (by decide)) pass0 (pa_cons (pv 0) (pa_cons (pe_int) pa_nil))) (fun _ _ => rfl)) pa_nil))))))), ?_⟩
    obtain ⟨qs, hD, rq⟩ := id hW
    have hyl : ys.length = rs.length := rys.len
    have hel : ∀ es ∈ rs, es.length ≤ 60 := fun es h => by rw [(hrun es h).1]; exact hsm
    refine ⟨_, rfl, L, rfl, ⟨_, SqL.of hL⟩, fun C hC => ?_⟩
    refine lc_list (xs := ys) (fun i H' => Ext H H' ∧ ∃ acc, H' C = some (.lst acc) ∧ Rel2 (RnAt H') acc ((rs.take i).filter (endsT ds t))) ⟨Ext.upd hC, [], upd_same, by rw [List.take_zero]; trivial⟩ (fun i H' _ pv => SqL.of (pv.1 _ _ hL)) (fun i x H' hx pv => ?_) (fun H' pv => ?_)
    · obtain ⟨e1, acc, hC1, hacc⟩ := pv
      have hi := (List.getElem?_eq_some_iff.mp hx).1
      obtain ⟨es, hes⟩ : ∃ es, rs[i]? = some es := ⟨_, List.getElem?_eq_getElem (by omega)⟩
      obtain ⟨x', hx', hrn⟩ := rys.got hes
      rw [hx'] at hx
      cases hx
      have hr1 := hrun es (List.mem_of_getElem? hes)
      refine ⟨rfl, _, rfl, _, rfl, D, ds, x, es, rfl, hW.ext e1, RnAt.k (Ext.kt e1) _ _ hrn, hr1, by omega, fun to u H2 e2 hto hu => ?_⟩
      have e12 := e1.trans e2
      have hC2 := e2 _ _ hC1
      have ha2 := hacc.to (RnAt.k (Ext.kt e2))
      have tk : (rs.take (i + 1)).filter (endsT ds t) = (rs.take i).filter (endsT ds t) ++ (if endsT ds t es = true then [es] else []) := by
        rw [take_snoc hes, List.filter_append, List.filter_cons, List.filter_nil]
      have no : endsT ds t es = false → Ext H H2 ∧ ∃ acc, H2 C = some (.lst acc) ∧ Rel2 (RnAt H2) acc ((rs.take (i + 1)).filter (endsT ds t)) := fun h => by
        rw [tk, h, if_neg (by decide), List.append_nil]
        exact ⟨e12, acc, hC2, ha2⟩
      cases hm : out ds es with
      | none =>
        rw [hm] at hto
        exact ⟨to, _, 1, .non, rfl, rfl, SqT.of hto, rfl, _, rfl, rfl, _, rfl, iteF (no (by unfold endsT; rw [hm]))⟩
      | some km =>
        obtain ⟨kk, m⟩ := km
        rw [hm] at hto
        refine ⟨to, _, 1, .int m, rfl, rfl, SqT.of hto, rfl, _, rfl, rfl, _, rfl, ?_⟩
        rw [dvi]
        have he : endsT ds t es = decide (m = t) := by unfold endsT; rw [hm]
        cases hmt : decide (m = t) with
        | false => exact iteF (no (by rw [he, hmt]))
        | true =>
          have kt := kt_set (ys := acc ++ [x]) hC2
          refine iteT ⟨_, rfl, _, hC2, small_sz ?_, ext_mut e12 hC, _, upd_same, ?_⟩
          · rw [ha2.len]
            refine Nat.le_trans (List.length_filter_le _ _) ?_
            rw [List.length_take]
            omega
          · rw [tk, he, hmt, if_pos rfl]
            exact Rel2.cat (ha2.to (RnAt.k kt)) (Rel2.one (RnAt.k ((Ext.kt e12).trans kt) _ _ hrn))
    · obtain ⟨e1, acc, hC1, hacc⟩ := pv
      rw [hyl, List.take_length] at hacc
      have hD1 := e1 _ _ hD
      have st1 := st.ext e1
      have x1 := Ext.s (b := b) (s := s) e1
      refine ⟨_, rfl, D, qs, rfl, .inl (SqL.of hD1), _, rfl, by omega, by rw [rq.len]; omega, fun G hG => ?_⟩
      have cnb := st.new hC
      rw [rq.len, Int.toNat_natCast]
      refine lc_range (fun i H2 => Ext H' H2 ∧ ∃ ms : List Nat, H2 G = some (.lst (ms.map nI)) ∧ ms.length ≤ i) ⟨Ext.upd hG, [], upd_same, Nat.zero_le _⟩ (fun i H2 hi pv => ?_) (fun H2 pv => ?_)
      · obtain ⟨e2, ms, hG2, hml⟩ := pv
        rw [Int.zero_add]
        obtain ⟨d, hd⟩ : ∃ d, ds[i]? = some d := ⟨_, List.getElem?_eq_getElem hi⟩
        obtain ⟨x, hx, tq, rfl, ht⟩ := rq.got hd
        have hD2 := SqL.of (K := K) (e2 _ _ hD1)
        have ht2 := e2 _ _ (e1 _ _ ht)
        have no : Ext H' H2 ∧ ∃ ms : List Nat, H2 G = some (.lst (ms.map nI)) ∧ ms.length ≤ i + 1 := ⟨e2, ms, hG2, by omega⟩
        refine ⟨rfl, _, rfl, _, rfl, D, qs, (i : Int), .ref tq, rfl, rfl, hD2, atI_nat hx, tq, _, 0, bV d.1, rfl, rfl, SqT.of ht2, rfl, rfl, _, rfl, ?_⟩
        cases hb : d.1 with
        | none => exact iteF (iteF no)
        | some n =>
          unfold w3 at ht2
          rw [hb] at ht2
          refine iteT ⟨_, rfl, _, rfl, D, qs, (i : Int), .ref tq, rfl, rfl, hD2, atI_nat hx, tq, _, 0, .int n, rfl, rfl, SqT.of ht2, rfl, _, rfl, _, rfl, D, qs, (i : Int), .ref tq, rfl, rfl, hD2, atI_nat hx, tq, _, 2, .int d.2.2, rfl, rfl, SqT.of ht2, rfl, _, _, rfl, rfl, .inl ⟨by decide, by decide⟩, _, _, rfl, rfl, _, rfl, _, _, rfl, rfl, _, rfl, ?_⟩
          cases h2 : decide (n + 2 * d.2.2 ≤ t) with
          | false => exact iteF no
          | true =>
            refine iteT ⟨_, rfl, _, hG2, small_sz ?_, ext_mut e2 hG, ms ++ [i], ?_, ?_⟩
            · rw [List.length_map]
              omega
            · rw [upd_same, List.map_append]
              rfl
            · rw [List.length_append]
              show ms.length + 1 ≤ i + 1
              omega
      · obtain ⟨e2, ms, hG2, hml⟩ := pv
        refine ⟨_, rfl, _, _, rfl, rfl, (z : Int) + 1, rfl, G, _, rfl, SqL.of hG2, fun V1 hV1 => ?_⟩
        have hcut : ∃ ms2 : List Nat, cutV (ms.map nI) none (some ((z : Int) + 1)) = ms2.map nI ∧ ms2.length ≤ ds.length := by
          refine ⟨ms.take (z + 1), ?_, by rw [List.length_take]; omega⟩
          show (((ms.map nI)).drop 0).take ((if (z : Int) + 1 < 0 then ((z : Int) + 1 + ((ms.map nI).length : Int)).toNat else min (((z : Int) + 1).toNat) (ms.map nI).length) - 0) = _
          rw [if_neg (by omega), List.drop_zero, List.map_take, show ((z : Int) + 1).toNat = z + 1 by omega, Nat.sub_zero]
          by_cases hl : z + 1 ≤ (ms.map nI).length
          · rw [Nat.min_eq_left hl]
          · rw [Nat.min_eq_right (by omega), List.take_length, List.take_of_length_le (by omega)]
        obtain ⟨ms2, hms2, hml2⟩ := hcut
        rw [hms2]
        have e3 := Ext.upd (o := .lst (ms2.map nI)) hV1
        have e13 := (e1.trans e2).trans e3
        have hV3 : upd H2 V1 (.lst (ms2.map nI)) V1 = some (.lst (ms2.map nI)) := upd_same
        have vnb := (st1.ext e2).new hV1
        have hC3 := e3 _ _ (e2 _ _ hC1)
        have ha3 := hacc.to (RnAt.k (Ext.kt (e2.trans e3)))
        generalize upd H2 V1 (.lst (ms2.map nI)) = H3 at e3 e13 hV3 hC3 ha3 ⊢
        have st3 := st.ext e13
        have x3 := Ext.s (b := b) (s := s) e13
        clear e1 e2 e3 hC1 hacc hG2 st1 x1 hD1 hV1 hG hC
        refine ⟨_, rfl, _, .inl ⟨_, SqL.of hC3, rfl⟩, ?_⟩
        cases acc with
        | nil =>
          refine iteT ?_
          refine ⟨_, rfl, _, rfl, b, s, _, L, ys, rs, rfl, st3, by omega, x3 L _ Lb Ls hL, Lb, Ls, rys.to (RnAt.k (kt_s st x3)), r1, r2, hel, fun x rl H7 st7 x7 hrl hrl2 nb7 ns7 => ?_⟩
          have x07 := (x3).trans x7
          refine ⟨_, rfl, _, rfl, D, _, rfl, .inl (SqL.of (x07 D _ Db Ds hD)), b, s, _, ds.length, by rw [rq.len]; rfl, st7, by omega, by omega, fun y lo H8 st8 x8 hlo hlo2 _ _ => ⟨by show 2 ≤ sizeLine; decide, fun T2 hT2 => ?_⟩⟩
          have e9 := Ext.upd (o := .tup [x, y]) hT2
          exact k T2 x y rl lo _ ((st8.ext e9).le (by omega)) ((x07.trans x8).trans (Ext.s e9)) upd_same ((hrl.s st7 x8 nb7 ns7).k e9) hrl2 (hlo.ext e9) (by omega)
        | cons a0 acc0 =>
          refine iteF ⟨_, rfl, b, s, N, 2, rfl, st3, by omega, by omega, by omega, fun y H5 y0 y2 st5 x5 => ⟨rfl, _, rfl, ?_⟩⟩
          have x35 := x3.trans x5
          cases hy : decide (V.int y = V.int 1) with
          | true =>
            refine iteT ?_
            refine ⟨_, rfl, _, rfl, b, s, _, L, ys, rs, rfl, st5, by omega, x35 L _ Lb Ls hL, Lb, Ls, rys.to (RnAt.k (kt_s st x35)), r1, r2, hel, fun x rl H7 st7 x7 hrl hrl2 nb7 ns7 => ?_⟩
            have x07 := (x35).trans x7
            refine ⟨_, rfl, _, rfl, D, _, rfl, .inl (SqL.of (x07 D _ Db Ds hD)), b, s, _, ds.length, by rw [rq.len]; rfl, st7, by omega, by omega, fun y lo H8 st8 x8 hlo hlo2 _ _ => ⟨by show 2 ≤ sizeLine; decide, fun T2 hT2 => ?_⟩⟩
            have e9 := Ext.upd (o := .tup [x, y]) hT2
            exact k T2 x y rl lo _ ((st8.ext e9).le (by omega)) ((x07.trans x8).trans (Ext.s e9)) upd_same ((hrl.s st7 x8 nb7 ns7).k e9) hrl2 (hlo.ext e9) (by omega)
          | false =>
            refine iteF ?_
            have hC5 := x5 C _ cnb.1 cnb.2 hC3
            have ha5 := ha3.to (RnAt.k (kt_s st3 x5))
            have hfl : 1 ≤ (rs.filter (endsT ds t)).length := by rw [← ha5.len]; exact Nat.succ_le_succ (Nat.zero_le _)
            refine ⟨_, rfl, _, rfl, b, s, _, C, _, _, rfl, st5, by omega, hC5, cnb.1, cnb.2, ha5, hfl, Nat.le_trans (List.length_filter_le _ _) r2, fun es h => hel es (List.mem_filter.mp h).1, fun x rl H7 st7 x7 hrl hrl2 nb7 ns7 => ?_⟩
            have hV7 := x7 V1 _ vnb.1 vnb.2 (x5 V1 _ vnb.1 vnb.2 hV3)
            have x07 := x35.trans x7
            refine ⟨_, rfl, V1, _, rfl, .inl ⟨SqL.of hV7, fun u1 hu1 => ⟨_, rfl, V1, _, rfl, .inl ⟨SqL.of (Ext.upd hu1 _ _ hV7), fun u2 hu2 => ?_⟩⟩⟩⟩
            have e8 := (Ext.upd (o := .tup (ms2.map nI)) hu1).trans (Ext.upd (o := .tup (ms2.map nI)) hu2)
            have c1 := Ext.upd (o := .tup (ms2.map nI)) hu2 u1 _ (upd_same (H := H7) (a := u1) (o := .tup (ms2.map nI)))
            have c2 : upd (upd H7 u1 (.tup (ms2.map nI))) u2 (.tup (ms2.map nI)) u2 = some (.tup (ms2.map nI)) := upd_same
            have st8 := st7.ext e8
            refine ⟨_, rfl, _, rfl, D, _, rfl, .inl (SqL.of (e8 _ _ (x07 D _ Db Ds hD))), b, s, _, ds.length, by rw [rq.len]; rfl, st8, by omega, by omega, fun y3 lo H9 st9 x9 hlo hlo2 yb yS => ⟨by show 3 ≤ sizeLine; decide, fun tt htt => ?_⟩⟩
            have e10 := Ext.upd (o := .tup [V.ref u1, .ref u2, y3]) htt
            have st10 := st9.ext e10
            have kt8 := (kt_s st8 x9).trans (Ext.kt e10)
            refine ⟨_, rfl, b, s, _, 3, rfl, st10, by omega, by omega, by omega, fun m H11 m0 m3 st11 x11 => ?_⟩
            have kt10 := kt_s st10 x11
            have ctt := kt10 tt _ upd_same
            obtain ⟨j, rfl⟩ : ∃ j : Nat, m = (j : Int) := ⟨m.toNat, by omega⟩
            have x711 : ExtS b s H7 H11 := (((Ext.s e8).trans x9).trans (Ext.s e10)).trans x11
            have hrl11 := hrl.s st7 x711 nb7 ns7
            have c1' := kt10 _ _ (kt8 _ _ c1)
            have c2' := kt10 _ _ (kt8 _ _ c2)
            have fin : ∀ (yv : V) (lo : Lo), LoAt H11 yv lo → lo.2.length ≤ 60 → (2 : Nat) ≤ sizeLine ∧ ∀ T2, H11 T2 = none → Q (.ref T2) (upd H11 T2 (.tup [x, yv])) := fun yv lo hlo hlen => ⟨by show 2 ≤ sizeLine; decide, fun T2 hT2 => by
              have e12 := Ext.upd (o := .tup [x, yv]) hT2
              exact k T2 x yv rl lo _ ((st11.ext e12).le (by omega)) ((x07.trans x711).trans (Ext.s e12)) upd_same (hrl11.k e12) hrl2 (hlo.ext e12) hlen⟩
            rcases j with _ | _ | _ | j
            · exact ⟨tt, _, ((0 : Nat) : Int), .ref u1, rfl, rfl, SqT.of ctt, atI_nat (j := 0) rfl, fin _ (0, ms2) ⟨u1, rfl, c1'⟩ (Nat.le_trans hml2 hsm)⟩
            · exact ⟨tt, _, ((1 : Nat) : Int), .ref u2, rfl, rfl, SqT.of ctt, atI_nat (j := 1) rfl, fin _ (0, ms2) ⟨u2, rfl, c2'⟩ (Nat.le_trans hml2 hsm)⟩
            · exact ⟨tt, _, ((2 : Nat) : Int), y3, rfl, rfl, SqT.of ctt, atI_nat (j := 2) rfl, fin _ lo ((hlo.ext e10).s st10 x11 yb yS) (by omega)⟩
            · exact absurd m3 (by omega)
end
end K18

set_option Elab.async false
set_option maxRecDepth 100000
set_option maxHeartbeats 4000000
namespace K18
open PySem PySem.Spec PyProof.Rows L2
/-- the run es answers first by k, at t -/
def winT (ds : List Wd) (k : Nat) (t : Int) (es : List En) : Bool := decide (out ds es = some (k, t))
theorem rv_shp (o : Option (Nat × Int)) : SeqAt.shaped (.tuple (rvD o)) = true := by
  cases o with
  | none => rfl
  | some km => obtain ⟨k, m⟩ := km; rfl
theorem wt_shp (k : Nat) (t : Int) : SeqAt.shaped (.tuple [.int (k : Int), .int t]) = true := rfl
theorem rv_eqv {o : Option (Nat × Int)} {k : Nat} {t : Int} : PyData.eqv (.tuple (rvD o)) (.tuple [.int (k : Int), .int t]) = decide (o = some (k, t)) := by
  cases o with
  | none => rfl
  | some km =>
    obtain ⟨j, m⟩ := km
    show (((j : Int) == (k : Int)) && ((m == t) && true)) = _
    rw [Bool.eq_iff_iff]
    simp
    omega
theorem can_shp (k : Nat) : SeqAt.shaped (.tuple [.str (Str.ofString "cannot"), .int (k : Int)]) = true := by kernel_rfl
theorem win_lim {ds : List Wd} {z : Int} {k : Nat} {t : Int} (hf : Fit ds) : ((lim z ds).filter (winT ds k t)).isEmpty = !can ds z k t := by
  have h := mem_outs (z := z) (t := t) (w := k) hf
  unfold outs at h
  rw [List.mem_map] at h
  cases hc : can ds z k t with
  | true =>
    obtain ⟨es, h1, h2⟩ := h.mpr hc
    have hm : es ∈ (lim z ds).filter (winT ds k t) := List.mem_filter.mpr ⟨h1, decide_eq_true h2⟩
    cases hl : (lim z ds).filter (winT ds k t) with
    | nil => rw [hl] at hm; cases hm
    | cons a l => rfl
  | false =>
    cases hl : (lim z ds).filter (winT ds k t) with
    | nil => rfl
    | cons a l =>
      have hm : a ∈ (lim z ds).filter (winT ds k t) := by rw [hl]; exact List.mem_cons_self
      obtain ⟨h1, h2⟩ := List.mem_filter.mp hm
      have := h.mp ⟨a, h1, of_decide_eq_true h2⟩
      rw [hc] at this
      cases this
theorem wrun_in {ds : List Wd} {z : Int} {k : Nat} {t : Int} (hf : Fit ds) (hc : can ds z k t = true) : wrun ds k t ∈ (lim z ds).filter (winT ds k t) := by
  obtain ⟨h1, h2, h3⟩ := wrun_of_can hf hc
  exact List.mem_filter.mpr ⟨mem_lim.mpr ⟨h1, h2⟩, decide_eq_true h3⟩
/-- the winner of a right run, when it ends at t -/
theorem end_rn {ds : List Wd} {z t : Int} {k : Nat} {es : List En} (hr : Run ds es) (hq : (qn ds es : Int) ≤ z) : decide (endV ds z t (.inl (true, es.map Sum.inl)) = some k) = winT ds k t es := by
  have ho : okX ds z (.inl (true, es.map Sum.inl)) = true := by
    show (dueR ds z (true, es.map Sum.inl)).isNone = true
    rw [due_right hr hq]
    rfl
  have he : rxE (.inl (true, es.map Sum.inl)) = es := inl_map
  rw [end_yes ho, he]
  unfold winT
  cases out ds es with
  | none => rfl
  | some km =>
    obtain ⟨j, m⟩ := km
    dsimp only
    refine decide_eq_decide.mpr ?_
    by_cases h : m = t
    · simp [h]
    · simp [h]
/-- what the paper shows when w never wins at t -/
theorem nev_nevL {ds : List Wd} {z k : Nat} {t : Int} (hc : can ds (z : Int) k t = false) : nevV ds z k t (0, nevL ds z k t) = true := by
  unfold nevV lotV nevL
  cases hin : inWb ds k t with
  | false => rfl
  | true =>
    rw [if_pos rfl]
    have hlen : z < (hurs ds k t).length := by
      unfold inWb at hin
      rw [Bool.and_eq_true, Bool.and_eq_true, decide_eq_true_eq, decide_eq_true_eq] at hin
      by_cases h : (hurs ds k t).length ≤ z
      · have : can ds (z : Int) k t = true := can_iff.mpr ⟨hin.1, hin.2, by omega⟩
        rw [hc] at this
        cases this
      · omega
    have h1 : inB ds.length ((hurs ds k t).take (z + 1)) = true := by
      unfold inB
      rw [List.all_eq_true]
      intro x hx
      have := List.mem_of_mem_take hx
      unfold hurs at this
      exact decide_eq_true (List.mem_range.mp (List.mem_filter.mp this).1)
    have h2 : upB ((hurs ds k t).take (z + 1)) = true := by
      have hp : ((hurs ds k t).take (z + 1)).Pairwise (· < ·) := by
        unfold hurs
        exact (List.pairwise_lt_range.filter _).sublist (List.take_sublist _ _)
      refine upB_iff.mpr fun j hj => ?_
      have := List.pairwise_iff_getElem.mp hp j (j + 1) (by omega) hj (by omega)
      rw [List.getD_eq_getElem?_getD, List.getD_eq_getElem?_getD, List.getElem?_eq_getElem (by omega), List.getElem?_eq_getElem hj]
      exact this
    have h3 : ((hurs ds k t).take (z + 1)).all (early ds k t) = true := by
      rw [List.all_eq_true]
      intro x hx
      have := List.mem_of_mem_take hx
      unfold hurs at this
      exact (List.mem_filter.mp this).2
    have h4 : ((hurs ds k t).take (z + 1)).length = z + 1 := by
      rw [List.length_take]
      omega
    dsimp only
    rw [h1, h2, h3, decide_eq_true h4]
    rfl
theorem nev_len {ds : List Wd} {z k : Nat} {t : Int} : (nevL ds z k t).length ≤ ds.length := by
  unfold nevL
  split
  · unfold hurs
    refine Nat.le_trans (by rw [List.length_take]; exact Nat.min_le_right _ _) ?_
    exact Nat.le_trans (List.length_filter_le _ _) (by rw [List.length_range]; exact Nat.le_refl _)
  · exact Nat.zero_le _
section
variable {P : Program} {w : World} {K : PySem.W.Frag} {mg : Str → Option Value} {base : Heap} {A : Ad}
theorem rv_dp {H : Hp} {t : Addr} {o : Option (Nat × Int)} (h : H t = some (.tup (rV o))) : Dp K H (.ref t) (.tuple (rvD o)) := by
  refine .tup (SqT.of h) ?_
  cases o with
  | none => exact .cons .non (.cons .non .nil)
  | some km => obtain ⟨k, m⟩ := km; exact .cons (.int _) (.cons (.int _) .nil)
theorem cut_rv {o : Option (Nat × Int)} {u : Addr} : cutV (rV o ++ [V.ref u]) none (some 2) = rV o := by
  cases o with
  | none => rfl
  | some km => obtain ⟨k, m⟩ := km; rfl
def spTR (K : PySem.W.Frag) (A : Ad) : Sp := fun vs H Q _ => ∃ (p D L : Addr) (ds : List Wd) (z k : Nat) (t : Int) (ys : List V), vs = [.ref p, .ref D, .int (z : Int), nI k, .int t, .ref L] ∧ RaceD K A H p ds (z : Int) ∧ Wl H D ds ∧ Fit ds ∧ ds.length ≤ 60 ∧ k < ds.length ∧ H L = some (.lst ys) ∧ Rel2 (RnAt H) ys (lim (z : Int) ds) ∧ (lim (z : Int) ds).length ≤ 1000 ∧ ∀ H', Ext H H' → Q (.bl true) H'
theorem ok_tr {f : Addr} {fd : FuncData} (F : Fun K "_law_told_right" "_law_told_right" s__law_told_right f fd) (T : Txt K mg A) (O__law_outcome : Own P w K mg base CX0 "_law_outcome" 1 pm__law_outcome spOut) (O_win_paper : Own P w K mg base CX0 "win_paper" 11 pm_win_paper (spWinP K A)) (O__law_run_of : Own P w K mg base CX0 "_law_run_of" 11 pm__law_run_of (spRunOf K A)) (O_shows_win : Own P w K mg base CX0 "shows_win" 6 pm_shows_win (spShW K A)) (O__law_never : Own P w K mg base CX0 "_law_never" 2 pm__law_never spNevL) (O_shows_never : Own P w K mg base CX0 "shows_never" 8 pm_shows_never (spShN K A)) : FnOk P w K mg base CX0 12 f fd pm__law_told_right (spTR K A) := by
  refine F.ok sc__law_told_right (fun vs H Q E h => ?_) (fun cdv A' outer s H vs Q E hr h => ?_)
  · obtain ⟨_, _, _, _, _, _, _, _, rfl, _⟩ := h
    rfl
  · obtain ⟨p, D, L, ds, z, k, t, ys, rfl, hR, hW, hf, hsm, hk, hL, rys, hll, q⟩ := h
    refine ⟨_, pss_cons (ps_setLc (i := 6) (own := [("_law_run_here", 8)]) (g := gName 8) (by rfl) sc__law_told_right.nd rfl rfl (sw_true rfl rfl rfl (by decide +kernel)) (pi_list (pv 5)) (blkOk_by (own := [("_law_run_here", 8)]) (N := nm__law_told_right) (sc := defScope s__law_told_right) (by decide +kernel)) (fun _ _ _ _ _ => pg_name (i := 8) sc__law_told_right.nd rfl (Or.inl rfl)) (fun s1 H1 C1 cl fp => pts_one (pt_cmpR (op_eqDK (K := K) rfl hr.units) (pe_slice sl_tupE (pe_own O__law_outcome (hr.mono (by decide)) pass0 (pa_cons (pv 1) (pa_cons (pv 8) pa_nil))) po_none (po_some (pe_int))) (pe_tup (pa_cons (pv 3) (pa_cons (pv 4) pa_nil))) (nomark _))) (fun s1 H1 C1 cl fp => pv 8))
      (pss_cons (ps_set (i := 7) sc__law_told_right.nd rfl (Or.inl rfl) (pe_own O_win_paper (hr.mono (by decide)) pass0 (pa_cons (pv 0) (pa_cons (pv 3) (pa_cons (pv 4) pa_nil)))))
      (pss_cons (ps_if (PW.pt (pw_or (pt_not (pt_val (pe_callB call_isi (by rfl) T.n_isinstance (by decide +kernel) (pa_cons (pv 7) (pa_cons (pe_bltn (v := .ty "tuple") (by rfl) T.n_tuple (by decide +kernel) rfl) pa_nil))))) (pw_or (pt_cmpR op_ne (pe_callB call_len_seq (by rfl) T.n_len (by decide +kernel) (pa_cons (pv 7) pa_nil)) (pe_int) (nomark _)) (pw_or1 (pt_cmpR op_ne (pe_ix ix_tup (pv 7) (pe_int) (fun _ _ => rfl)) (pe_ix ix_tup (pe_tup (pa_cons (pe_str) (pa_cons (pe_str) pa_nil))) (pe_callTy call_int1 (by rfl) T.n_int (by decide +kernel) (pa_cons (pe_cmpR op_gt (pe_callB call_len_seq (by rfl) T.n_len (by decide +kernel) (pa_cons (pv 6) pa_nil)) (pe_int) (nomark _)) pa_nil)) (fun _ _ => rfl)) (nomark _)))))) (pss_one (ps_ret (pe_bl))) (pss_nil))
      (pss_cons (ps_set (i := 8) sc__law_told_right.nd rfl (Or.inl rfl) (pe_own O__law_run_of (hr.mono (by decide)) pass0 (pa_cons (pv 0) (pa_cons (pv 3) (pa_cons (pv 4) pa_nil)))))
      (pss_cons (ps_if (pt_truth (pv 6) (by intro _; rfl)) (pss_one (ps_ret (pe_and (pe_cmpR (op_inDK (K := K) rfl hr.in1.units) (pe_ix ix_tup (pv 7) (pe_int) (fun _ _ => rfl)) (pv 6) (by with_unfolding_all rfl)) (pe_and (pe_cmpR (op_inDK (K := K) rfl hr.in1.units) (pv 8) (pv 6) (by with_unfolding_all rfl)) (pe_one (pe_cmpR op_isBl (pe_own O_shows_win (hr.mono (by decide)) pass0 (pa_cons (pv 0) (pa_cons (pv 3) (pa_cons (pv 4) (pa_cons (pe_ix ix_tup (pv 7) (pe_int) (fun _ _ => rfl)) pa_nil))))) (pe_bl) (nomark _))))))) (pss_nil))
      (pss_one (ps_ret (pe_and (pe_own O__law_never (hr.mono (by decide)) pass0 (pa_cons (pv 1) (pa_cons (pv 2) (pa_cons (pv 3) (pa_cons (pv 4) (pa_cons (pe_ix ix_tup (pv 7) (pe_int) (fun _ _ => rfl)) pa_nil)))))) (pe_and (pe_cmpR (op_eqDK (K := K) rfl hr.units) (pv 8) (pe_tup (pa_cons (pe_str) (pa_cons (pv 3) pa_nil))) (nomark _)) (pe_one (pe_cmpR op_isBl (pe_own O_shows_never (hr.mono (by decide)) pass0 (pa_cons (pv 0) (pa_cons (pv 3) (pa_cons (pv 4) (pa_cons (pe_ix ix_tup (pv 7) (pe_int) (fun _ _ => rfl)) pa_nil))))) (pe_bl) (nomark _))))))))))), ?_⟩
    have hyl : ys.length = (lim (z : Int) ds).length := rys.len
    refine ⟨_, rfl, L, rfl, ⟨_, SqL.of hL⟩, fun C hC => ?_⟩
    refine lc_list (xs := ys) (fun i H' => Ext H H' ∧ ∃ acc, H' C = some (.lst acc) ∧ Rel2 (RnAt H') acc (((lim (z : Int) ds).take i).filter (winT ds k t))) ⟨Ext.upd hC, [], upd_same, by rw [List.take_zero]; trivial⟩ (fun i H' _ pv => SqL.of (pv.1 _ _ hL)) (fun i x H' hx pv => ?_) (fun H' pv => ?_)
    · obtain ⟨e1, acc, hC1, hacc⟩ := pv
      have hi := (List.getElem?_eq_some_iff.mp hx).1
      obtain ⟨es, hes⟩ : ∃ es, (lim (z : Int) ds)[i]? = some es := ⟨_, List.getElem?_eq_getElem (by omega)⟩
      obtain ⟨x', hx', hrn⟩ := rys.got hes
      rw [hx'] at hx
      cases hx
      have hr1 := (mem_lim.mp (List.mem_of_getElem? hes)).1
      refine ⟨rfl, _, rfl, _, rfl, D, ds, x, es, rfl, hW.ext e1, RnAt.k (Ext.kt e1) _ _ hrn, hr1, by omega, fun to u H2 e2 hto hu => ?_⟩
      refine ⟨_, rfl, to, _, rfl, hto, fun c H3 e3 hc => ⟨_, rfl, _, rfl, by show 2 ≤ sizeLine; decide, fun d hd => ?_⟩⟩
      have e4 := Ext.upd (o := .tup [nI k, .int t]) hd
      rw [cut_rv] at hc
      refine ⟨.tuple (rvD (out ds es)), .tuple [.int (k : Int), .int t], rv_dp (e4 _ _ hc), .tup (SqT.of upd_same) (.cons (.int _) (.cons (.int _) .nil)), rv_shp _, wt_shp _ _, _, rfl, ?_⟩
      rw [rv_eqv, show decide (out ds es = some (k, t)) = winT ds k t es from rfl, take_snoc hes, List.filter_append, List.filter_cons, List.filter_nil]
      have e14 := (e1.trans (e2.trans e3)).trans e4
      have hC4 := e4 _ _ (e3 _ _ (e2 _ _ hC1))
      have ha4 := hacc.to (RnAt.k (Ext.kt ((e2.trans e3).trans e4)))
      cases hw : winT ds k t es with
      | false =>
        refine iteF ⟨e14, acc, hC4, ?_⟩
        rw [if_neg (by decide), List.append_nil]
        exact ha4
      | true =>
        have kt := kt_set (ys := acc ++ [x]) hC4
        refine iteT ⟨_, rfl, _, hC4, small_sz ?_, ext_mut e14 hC, _, upd_same, ?_⟩
        · rw [ha4.len]
          refine Nat.le_trans (List.length_filter_le _ _) ?_
          rw [List.length_take]
          omega
        · rw [if_pos rfl]
          exact Rel2.cat (ha4.to (RnAt.k kt)) (Rel2.one (RnAt.k ((Ext.kt e14).trans kt) _ _ hrn))
    · obtain ⟨e1, acc, hC1, hacc⟩ := pv
      rw [hyl, List.take_length] at hacc
      have hwe := win_lim (z := (z : Int)) (k := k) (t := t) hf
      refine ⟨_, rfl, _, rfl, _, rfl, p, ds, z, k, t, rfl, hR.ext e1, by omega, hk, fun hc T2 v H2 e2 hT2 hv => ?_, fun hc T2 u H2 e2 hT2 hu => ?_⟩
      · have e12 := e1.trans e2
        have hC2 := e2 _ _ hC1
        have ha2 := hacc.to (RnAt.k (Ext.kt e2))
        have hin := wrun_in (z := (z : Int)) hf hc
        obtain ⟨w1, w2⟩ := List.mem_filter.mp hin
        obtain ⟨w3', w4⟩ := mem_lim.mp w1
        have hpos : acc.length > 0 := by
          rw [ha2.len]
          exact List.length_pos_of_mem hin
        refine ⟨_, rfl, .ref T2, .ty "tuple", _, .type "tuple", true, rfl, .ty _, dp_ty (.tup (SqT.of hT2) (.cons (.str _) (.cons (rn_dp hv) .nil))), kd_tup, _, rfl, iteF ⟨_, rfl, T2, _, rfl, .inr (SqT.of hT2), rfl, _, rfl, ?_⟩⟩
        rw [dvi]
        refine iteF ⟨_, rfl, T2, _, 0, .str (Str.ofString "win"), rfl, rfl, SqT.of hT2, rfl, by show 2 ≤ sizeLine; decide, fun W hW2 => ?_⟩
        have e3 := Ext.upd (o := .tup [.str (Str.ofString "never"), .str (Str.ofString "win")]) hW2
        have hC3 := e3 _ _ hC2
        refine ⟨_, rfl, C, acc, rfl, .inl (SqL.of hC3), _, _, rfl, rfl, .inr ⟨_, rfl, ?_⟩⟩
        rw [decide_eq_true (show (acc.length : Int) > 0 by omega)]
        refine ⟨W, _, 1, .str (Str.ofString "win"), rfl, rfl, SqT.of upd_same, rfl, ?_⟩
        refine ⟨rfl, _, rfl, ?_⟩
        rw [decide_eq_true rfl]
        have e13 := e12.trans e3
        refine iteF ⟨_, rfl, _, rfl, _, rfl, p, ds, (z : Int), k, t, rfl, hR.ext e13, by omega, hk, fun _ v2 H4 e4 hv2 => ?_, fun h => by rw [hc] at h; cases h⟩
        have e34 := e3.trans e4
        have hC4 := e34 _ _ hC2
        have ha4 := ha2.to (RnAt.k (Ext.kt e34))
        have hT4 := e34 _ _ hT2
        have hv4 := RnAt.k (Ext.kt e34) _ _ hv
        have e14 := e12.trans e34
        refine ⟨_, rfl, _, .inl ⟨_, SqL.of hC4, rfl⟩, ?_⟩
        cases acc with
        | nil => exact absurd hpos (Nat.lt_irrefl 0)
        | cons a0 acc0 =>
          refine iteT ⟨_, rfl, T2, _, 1, v, rfl, rfl, SqT.of hT4, rfl, _, rfl, rnD (wrun ds k t), ((lim (z : Int) ds).filter (winT ds k t)).map rnD, rn_dp hv4, .lst (SqL.of hC4) (runs_dp ha4), rn_shp _, runs_shp _, _, rfl, ?_⟩
          rw [rn_any, decide_eq_true hin]
          refine iteT ⟨_, rfl, _, rfl, rnD (wrun ds k t), ((lim (z : Int) ds).filter (winT ds k t)).map rnD, rn_dp hv2, .lst (SqL.of hC4) (runs_dp ha4), rn_shp _, runs_shp _, _, rfl, ?_⟩
          rw [rn_any, decide_eq_true hin]
          refine iteT ⟨_, rfl, _, rfl, _, rfl, _, rfl, T2, _, 1, v, rfl, rfl, SqT.of hT4, rfl, p, ds, (z : Int), t, k, v, .inl (true, (wrun ds k t).map Sum.inl), rfl, hR.ext e14, by omega, hk, ⟨hv4.ru, ?_⟩, fun H5 e5 => ⟨_, _, rfl, rfl, ?_⟩⟩
          · show ((wrun ds k t).map Sum.inl).length ≤ 1000
            rw [List.length_map, w3'.1]
            omega
          · rw [end_rn w3' w4, w2]
            exact q H5 (e14.trans e5)
      · have e12 := e1.trans e2
        have hC2 := e2 _ _ hC1
        have hnil : acc = [] := by
          rw [hc] at hwe
          have := hacc.len
          cases hl : (lim (z : Int) ds).filter (winT ds k t) with
          | nil => rw [hl] at this; exact List.length_eq_zero_iff.mp this
          | cons a l => rw [hl] at hwe; cases hwe
        subst hnil
        refine ⟨_, rfl, .ref T2, .ty "tuple", _, .type "tuple", true, rfl, .ty _, dp_ty (.tup (SqT.of hT2) (.cons (.str _) (.cons (.tup (SqT.of hu) (nats_dp _)) .nil))), kd_tup, _, rfl, iteF ⟨_, rfl, T2, _, rfl, .inr (SqT.of hT2), rfl, _, rfl, ?_⟩⟩
        rw [dvi]
        refine iteF ⟨_, rfl, T2, _, 0, .str (Str.ofString "never"), rfl, rfl, SqT.of hT2, rfl, by show 2 ≤ sizeLine; decide, fun W hW2 => ?_⟩
        have e3 := Ext.upd (o := .tup [.str (Str.ofString "never"), .str (Str.ofString "win")]) hW2
        have hC3 := e3 _ _ hC2
        refine ⟨_, rfl, C, [], rfl, .inl (SqL.of hC3), _, _, rfl, rfl, .inr ⟨_, rfl, ?_⟩⟩
        refine ⟨W, _, 0, .str (Str.ofString "never"), rfl, rfl, SqT.of upd_same, rfl, ?_⟩
        refine ⟨rfl, _, rfl, ?_⟩
        rw [decide_eq_true rfl]
        have e13 := e12.trans e3
        refine iteF ⟨_, rfl, _, rfl, _, rfl, p, ds, (z : Int), k, t, rfl, hR.ext e13, by omega, hk, (fun h => by rw [hc] at h; cases h), fun _ u2 H4 e4 hu2 => ?_⟩
        have e34 := e3.trans e4
        have hC4 := e34 _ _ hC2
        have hT4 := e34 _ _ hT2
        have hu4 := e34 _ _ hu
        have e14 := e12.trans e34
        have hlo : LoAt H4 (.ref u) (0, nevL ds z k t) := ⟨u, rfl, hu4⟩
        have hnl : (nevL ds z k t).length ≤ 1000 := Nat.le_trans nev_len (by omega)
        refine ⟨_, rfl, _, .inl ⟨_, SqL.of hC4, rfl⟩, iteF ?_⟩
        refine ⟨_, rfl, _, rfl, _, rfl, _, rfl, _, rfl, T2, _, 1, .ref u, rfl, rfl, SqT.of hT4, rfl, D, ds, z, k, t, .ref u, (0, nevL ds z k t), rfl, hW.ext e14, by omega, hk, hlo, hnl, fun H5 e5 => ⟨_, rfl, ?_⟩⟩
        rw [nev_nevL hc]
        have e15 := e14.trans e5
        refine iteT ⟨_, rfl, _, rfl, by show 2 ≤ sizeLine; decide, fun c5 hc5 => ?_⟩
        have e6 := Ext.upd (o := .tup [.str (Str.ofString "cannot"), nI k]) hc5
        have e46 := e5.trans e6
        refine ⟨.tuple [.str (Str.ofString "cannot"), .int (k : Int)], .tuple [.str (Str.ofString "cannot"), .int (k : Int)], .tup (SqT.of (e46 _ _ hu2)) (.cons (.str _) (.cons (.int _) .nil)), .tup (SqT.of upd_same) (.cons (.str _) (.cons (.int _) .nil)), can_shp k, can_shp k, _, rfl, ?_⟩
        rw [shp_refl (can_shp k)]
        refine iteT ⟨_, rfl, _, rfl, _, rfl, _, rfl, T2, _, 1, .ref u, rfl, rfl, SqT.of (e46 _ _ hT4), rfl, p, ds, z, t, k, .ref u, (0, nevL ds z k t), rfl, hR.ext (e14.trans e46), by omega, hk, hlo.ext e46, hnl, fun H7 e7 => ⟨_, _, rfl, rfl, ?_⟩⟩
        rw [nev_nevL hc]
        exact q H7 ((e14.trans e46).trans e7)
end
end K18

set_option Elab.async false
set_option maxRecDepth 100000
set_option maxHeartbeats 4000000
namespace K18
open PySem PySem.Spec PyProof.Rows L2
/-- such a run is one of the right ones -/
def fitR (ds : List Wd) (z : Int) : Rl → Bool
  | .inl (true, es) => decide (es ∈ lim z ds)
  | _ => false
section
variable {P : Program} {w : World} {K : PySem.W.Frag} {mg : Str → Option Value} {base : Heap} {A : Ad}
theorem rl_rn {H : Hp} {v : V} {es : List En} (h : RlAt H v (.inl (true, es))) : RnAt H v es := h
theorem fit_ok (K : PySem.W.Frag) {H : Hp} {v : V} {rl : Rl} {ds : List Wd} {z : Int} (h : RlAt H v rl) : okX ds z (toX rl) = fitR ds z rl := by
  rcases rl with ⟨b, es⟩ | y
  · cases b with
    | false => rfl
    | true =>
      show (dueR ds z (true, es.map Sum.inl)).isNone = decide (es ∈ lim z ds)
      by_cases hl : es ∈ lim z ds
      · obtain ⟨h1, h2⟩ := mem_lim.mp hl
        rw [due_right h1 h2, decide_eq_true hl]
        rfl
      · rw [decide_eq_false hl]
        cases hd : dueR ds z (true, es.map Sum.inl) with
        | some o => rfl
        | none =>
          exfalso
          have hru : RuAt K H v (true, es.map Sum.inl) := (rl_rn h).ru
          obtain ⟨_, h1, h2⟩ := right_due hru hd
          rw [inl_map] at h1 h2
          exact hl (mem_lim.mpr ⟨h1, h2⟩)
  · rfl
theorem rl_dp {H : Hp} {v : V} {rl : Rl} (h : RlAt H v rl) : (∃ es, rl = .inl (true, es)) ∨ ∃ d, Dp K H v d ∧ isTupD d = false ∧ ∀ ds z, fitR ds z rl = false := by
  rcases rl with ⟨b, es⟩ | y
  · cases b with
    | true => exact .inl ⟨es, rfl⟩
    | false =>
      obtain ⟨t, vs, rfl, h2, h3⟩ := h
      exact .inr ⟨.list (es.map enD), .lst (SqL.of h2) (ens_dp h3), rfl, fun _ _ => rfl⟩
  · rcases h with ⟨rfl, rfl⟩ | ⟨rfl, rfl⟩
    · exact .inr ⟨.none, .non, rfl, fun _ _ => rfl⟩
    · exact .inr ⟨.int 0, .int _, rfl, fun _ _ => rfl⟩
def spJ (K : PySem.W.Frag) (A : Ad) : Sp := fun vs H Q _ => ∃ (p D L : Addr) (ds : List Wd) (z k : Nat) (t : Int) (x y : V) (rl : Rl) (lo : Lo) (ys : List V), vs = [.ref p, .ref D, .int (z : Int), nI k, .int t, x, y, .ref L] ∧ RaceD K A H p ds (z : Int) ∧ Wl H D ds ∧ ds.length ≤ 60 ∧ k < ds.length ∧ RlAt H x rl ∧ rlLen rl ≤ 61 ∧ LoAt H y lo ∧ lo.2.length ≤ 60 ∧ H L = some (.lst ys) ∧ Rel2 (RnAt H) ys (lim (z : Int) ds) ∧ ∀ H', Ext H H' → Q (.bl true) H'
theorem ok_judged {f : Addr} {fd : FuncData} (F : Fun K "_law_judged" "_law_judged" s__law_judged f fd) (T : Txt K mg A) (O_shows_win : Own P w K mg base CX0 "shows_win" 6 pm_shows_win (spShW K A)) (O__law_outcome : Own P w K mg base CX0 "_law_outcome" 1 pm__law_outcome spOut) (O_shows_never : Own P w K mg base CX0 "shows_never" 8 pm_shows_never (spShN K A)) (O__law_never : Own P w K mg base CX0 "_law_never" 2 pm__law_never spNevL) (O_shows_unanswered : Own P w K mg base CX0 "shows_unanswered" 5 pm_shows_unanswered (spShU K A)) (O_shows_latest : Own P w K mg base CX0 "shows_latest" 6 pm_shows_latest (spShL K A)) (O__law_latest : Own P w K mg base CX0 "_law_latest" 2 pm__law_latest spLatL) : FnOk P w K mg base CX0 9 f fd pm__law_judged (spJ K A) := by
  refine F.ok sc__law_judged (fun vs H Q E h => ?_) (fun cdv A' outer s H vs Q E hr h => ?_)
  · obtain ⟨_, _, _, _, _, _, _, _, _, _, _, _, rfl, _⟩ := h
    rfl
  · obtain ⟨p, D, L, ds, z, k, t, x, y, rl, lo, ys, rfl, hR, hW, hsm, hk, hx, hxl, hlo, hll, hL, rys, q⟩ := h
    refine ⟨_, pss_cons (ps_set (i := 8) sc__law_judged.nd rfl (Or.inl rfl) (pe_and (pe_callB call_isi (by rfl) T.n_isinstance (by decide +kernel) (pa_cons (pv 5) (pa_cons (pe_bltn (v := .ty "tuple") (by rfl) T.n_tuple (by decide +kernel) rfl) pa_nil))) (pe_one (pe_cmpR (op_inDK (K := K) rfl hr.in1.units) (pv 5) (pv 7) (by with_unfolding_all rfl)))))
      (pss_cons (ps_if (pt_cmpR op_ne (pe_own O_shows_win (hr.mono (by decide)) pass0 (pa_cons (pv 0) (pa_cons (pv 3) (pa_cons (pv 4) (pa_cons (pv 5) pa_nil))))) (pe_and (pv 8) (pe_one (pe_cmpR (op_eqDK (K := K) rfl hr.units) (pe_slice sl_tupE (pe_own O__law_outcome (hr.mono (by decide)) pass0 (pa_cons (pv 1) (pa_cons (pv 5) pa_nil))) po_none (po_some (pe_int))) (pe_tup (pa_cons (pv 3) (pa_cons (pv 4) pa_nil))) (nomark _)))) (nomark _)) (pss_one (ps_ret (pe_bl))) (pss_nil))
      (pss_cons (ps_if (pt_cmpR op_ne (pe_own O_shows_never (hr.mono (by decide)) pass0 (pa_cons (pv 0) (pa_cons (pv 3) (pa_cons (pv 4) (pa_cons (pv 6) pa_nil))))) (pe_own O__law_never (hr.mono (by decide)) pass0 (pa_cons (pv 1) (pa_cons (pv 2) (pa_cons (pv 3) (pa_cons (pv 4) (pa_cons (pv 6) pa_nil)))))) (nomark _)) (pss_one (ps_ret (pe_bl))) (pss_nil))
      (pss_cons (ps_if (pt_cmpR op_ne (pe_own O_shows_unanswered (hr.mono (by decide)) pass0 (pa_cons (pv 0) (pa_cons (pv 5) pa_nil))) (pe_and (pv 8) (pe_one (pe_cmpR op_isN (pe_ix ix_tup (pe_own O__law_outcome (hr.mono (by decide)) pass0 (pa_cons (pv 1) (pa_cons (pv 5) pa_nil))) (pe_int) (fun _ _ => rfl)) (pe_non) (nomark _)))) (nomark _)) (pss_one (ps_ret (pe_bl))) (pss_nil))
      (pss_one (ps_ret (pe_cmpR op_eq (pe_own O_shows_latest (hr.mono (by decide)) pass0 (pa_cons (pv 0) (pa_cons (pv 4) (pa_cons (pv 5) (pa_cons (pv 6) pa_nil))))) (pe_and (pv 8) (pe_one (pe_own O__law_latest (hr.mono (by decide)) pass0 (pa_cons (pv 1) (pa_cons (pv 2) (pa_cons (pv 4) (pa_cons (pv 5) (pa_cons (pv 6) (pa_cons (pv 7) pa_nil))))))))) (nomark _))))))), ?_⟩
    have hrx : RxAt K H x (toX rl) := hx.rx (by omega)
    rcases rl_dp (K := K) hx with ⟨es, rfl⟩ | ⟨d, hd, hdt, hf0⟩
    · have hrn := rl_rn hx
      refine ⟨_, rfl, x, .ty "tuple", _, .type "tuple", true, rfl, .ty _, dp_ty (rn_dp hrn), kd_tup, _, rfl, iteT ⟨_, rfl, _, rfl, rnD es, (lim (z : Int) ds).map rnD, rn_dp hrn, .lst (SqL.of hL) (runs_dp rys), rn_shp es, runs_shp _, ?_⟩⟩
      rw [rn_any]
      cases hfit : decide (es ∈ lim (z : Int) ds) with
      | false =>
        generalize hrl : (Sum.inl (true, es) : Rl) = rl at hx hxl hrx
        replace hfit : fitR ds (z : Int) rl = false := by rw [← hrl]; exact hfit
        have ho : okX ds (z : Int) (toX rl) = false := by rw [fit_ok K hx]; exact hfit
        have hw : decide (endV ds (z : Int) t (toX rl) = some k) = false := by rw [end_no ho]; rfl
        have hlat : latV ds z t (toX rl) lo = false := by unfold latV; rw [end_no ho]; rfl
        refine ⟨_, rfl, _, rfl, _, rfl, _, rfl, p, ds, (z : Int), t, k, x, toX rl, rfl, hR, by omega, hk, hrx, fun H1 e1 => ?_⟩
        rw [hw]
        refine ⟨_, rfl, _, rfl, iteF ⟨rfl, _, rfl, ?_⟩⟩
        rw [decide_eq_true rfl]
        refine iteF ⟨_, rfl, _, rfl, _, rfl, _, rfl, p, ds, z, t, k, y, lo, rfl, hR.ext e1, by omega, hk, hlo.ext e1, by omega, fun H2 e2 => ?_⟩
        have e12 := e1.trans e2
        refine ⟨_, rfl, _, rfl, _, rfl, _, rfl, _, rfl, D, ds, z, k, t, y, lo, rfl, hW.ext e12, by omega, hk, hlo.ext e12, by omega, fun H3 e3 => ⟨rfl, _, rfl, ?_⟩⟩
        rw [decide_eq_true rfl]
        have e13 := e12.trans e3
        refine iteF ⟨_, rfl, _, rfl, p, ds, (z : Int), x, toX rl, rfl, hR.ext e13, by omega, hrx.ext e13, fun H4 e4 => ?_⟩
        rw [ho, Bool.false_and]
        refine ⟨_, rfl, _, rfl, iteF ⟨rfl, _, rfl, ?_⟩⟩
        rw [decide_eq_true rfl]
        have e14 := e13.trans e4
        refine iteF ⟨_, rfl, _, rfl, _, rfl, _, rfl, p, ds, z, t, x, y, toX rl, lo, rfl, hR.ext e14, by omega, hrx.ext e14, hlo.ext e14, by omega, fun H5 e5 => ?_⟩
        rw [hlat]
        refine ⟨_, rfl, _, rfl, iteF ⟨rfl, ?_⟩⟩
        rw [decide_eq_true rfl]
        exact q H5 (e14.trans e5)
      | true =>
        have hl := of_decide_eq_true hfit
        obtain ⟨hrun, hqn⟩ := mem_lim.mp hl
        have ho : okX ds (z : Int) (toX (.inl (true, es))) = true := by rw [fit_ok K hx]; exact hfit
        have he : rxE (toX (.inl (true, es))) = es := inl_map
        have hrl := fun (H' : Hp) (e : Ext H H') => RnAt.k (Ext.kt e) _ _ hrn
        refine ⟨_, rfl, _, rfl, _, rfl, _, rfl, p, ds, (z : Int), t, k, x, toX (.inl (true, es)), rfl, hR, by omega, hk, hrx, fun H1 e1 => ?_⟩
        have hw : decide (endV ds (z : Int) t (toX (.inl (true, es))) = some k) = winT ds k t es := end_rn hrun hqn
        rw [hw]
        refine ⟨_, rfl, _, rfl, iteT ⟨_, rfl, _, rfl, D, ds, x, es, rfl, hW.ext e1, hrl _ e1, hrun, by omega, fun to u H2 e2 hto hu => ⟨_, rfl, to, _, rfl, hto, fun c H3 e3 hc => ⟨_, rfl, _, rfl, by show 2 ≤ sizeLine; decide, fun d hd => ?_⟩⟩⟩⟩
        rw [cut_rv] at hc
        have e4 := Ext.upd (o := .tup [nI k, .int t]) hd
        have e14 := ((e1.trans e2).trans e3).trans e4
        refine ⟨.tuple (rvD (out ds es)), .tuple [.int (k : Int), .int t], rv_dp (e4 _ _ hc), .tup (SqT.of upd_same) (.cons (.int _) (.cons (.int _) .nil)), rv_shp _, wt_shp _ _, ?_⟩
        rw [rv_eqv, show decide (out ds es = some (k, t)) = winT ds k t es from rfl]
        refine ⟨rfl, _, rfl, ?_⟩
        rw [decide_eq_true rfl]
        refine iteF ⟨_, rfl, _, rfl, _, rfl, _, rfl, p, ds, z, t, k, y, lo, rfl, hR.ext e14, by omega, hk, hlo.ext e14, by omega, fun H5 e5 => ?_⟩
        have e15 := e14.trans e5
        refine ⟨_, rfl, _, rfl, _, rfl, _, rfl, _, rfl, D, ds, z, k, t, y, lo, rfl, hW.ext e15, by omega, hk, hlo.ext e15, by omega, fun H6 e6 => ⟨rfl, _, rfl, ?_⟩⟩
        rw [decide_eq_true rfl]
        have e16 := e15.trans e6
        refine iteF ⟨_, rfl, _, rfl, p, ds, (z : Int), x, toX (.inl (true, es)), rfl, hR.ext e16, by omega, hrx.ext e16, fun H7 e7 => ?_⟩
        have e17 := e16.trans e7
        rw [ho, Bool.true_and, he]
        refine ⟨_, rfl, _, rfl, iteT ⟨_, rfl, _, rfl, D, ds, x, es, rfl, hW.ext e17, hrl _ e17, hrun, by omega, fun to2 u2 H8 e8 hto2 hu2 => ?_⟩⟩
        have e18 := e17.trans e8
        have h0 : ∃ v0, (rV (out ds es) ++ [V.ref u2])[0]? = some v0 ∧ decide (v0 = V.non) = (out ds es).isNone := by
          cases out ds es with
          | none => exact ⟨.non, rfl, rfl⟩
          | some km => obtain ⟨a, m⟩ := km; exact ⟨nI a, rfl, rfl⟩
        obtain ⟨v0, hv0, hv1⟩ := h0
        refine ⟨to2, _, 0, v0, rfl, rfl, SqT.of hto2, atI_nat (j := 0) hv0, rfl, ?_⟩
        rw [hv1]
        refine ⟨rfl, _, rfl, ?_⟩
        rw [decide_eq_true rfl]
        refine iteF ⟨_, rfl, _, rfl, _, rfl, _, rfl, p, ds, z, t, x, y, toX (.inl (true, es)), lo, rfl, hR.ext e18, by omega, hrx.ext e18, hlo.ext e18, by omega, fun H9 e9 => ?_⟩
        have e19 := e18.trans e9
        have hlat : latV ds z t (toX (.inl (true, es))) lo = latR ds z t es lo := lat_rn hrun hqn
        rw [hlat]
        refine ⟨_, rfl, _, rfl, iteT ⟨_, rfl, _, rfl, _, rfl, _, rfl, _, rfl, _, rfl, D, L, ds, z, t, x, y, es, lo, ys, rfl, hW.ext e19, by omega, hrl _ e19, hl, hlo.ext e19, by omega, e19 _ _ hL, rys.to (RnAt.k (Ext.kt e19)), fun H10 e10 => ⟨rfl, ?_⟩⟩⟩
        rw [decide_eq_true rfl]
        exact q H10 (e19.trans e10)
    · refine ⟨_, rfl, x, .ty "tuple", _, .type "tuple", isTupD d, rfl, .ty _, dp_ty hd, kd_tup, ?_⟩
      rw [hdt]
      have hfit := hf0 ds (z : Int)
      refine ⟨_, rfl, iteF ?_⟩
      have ho : okX ds (z : Int) (toX rl) = false := by rw [fit_ok K hx]; exact hfit
      have hw : decide (endV ds (z : Int) t (toX rl) = some k) = false := by rw [end_no ho]; rfl
      have hlat : latV ds z t (toX rl) lo = false := by unfold latV; rw [end_no ho]; rfl
      refine ⟨_, rfl, _, rfl, _, rfl, _, rfl, p, ds, (z : Int), t, k, x, toX rl, rfl, hR, by omega, hk, hrx, fun H1 e1 => ?_⟩
      rw [hw]
      refine ⟨_, rfl, _, rfl, iteF ⟨rfl, _, rfl, ?_⟩⟩
      rw [decide_eq_true rfl]
      refine iteF ⟨_, rfl, _, rfl, _, rfl, _, rfl, p, ds, z, t, k, y, lo, rfl, hR.ext e1, by omega, hk, hlo.ext e1, by omega, fun H2 e2 => ?_⟩
      have e12 := e1.trans e2
      refine ⟨_, rfl, _, rfl, _, rfl, _, rfl, _, rfl, D, ds, z, k, t, y, lo, rfl, hW.ext e12, by omega, hk, hlo.ext e12, by omega, fun H3 e3 => ⟨rfl, _, rfl, ?_⟩⟩
      rw [decide_eq_true rfl]
      have e13 := e12.trans e3
      refine iteF ⟨_, rfl, _, rfl, p, ds, (z : Int), x, toX rl, rfl, hR.ext e13, by omega, hrx.ext e13, fun H4 e4 => ?_⟩
      rw [ho, Bool.false_and]
      refine ⟨_, rfl, _, rfl, iteF ⟨rfl, _, rfl, ?_⟩⟩
      rw [decide_eq_true rfl]
      have e14 := e13.trans e4
      refine iteF ⟨_, rfl, _, rfl, _, rfl, _, rfl, p, ds, z, t, x, y, toX rl, lo, rfl, hR.ext e14, by omega, hrx.ext e14, hlo.ext e14, by omega, fun H5 e5 => ?_⟩
      rw [hlat]
      refine ⟨_, rfl, _, rfl, iteF ⟨rfl, ?_⟩⟩
      rw [decide_eq_true rfl]
      exact q H5 (e14.trans e5)
end
end K18

set_option Elab.async false
set_option maxRecDepth 100000
set_option maxHeartbeats 4000000
namespace K18
open PySem PySem.Spec PyProof.Rows L2
def spLaw (K : PySem.W.Frag) : Sp := fun vs H Q _ => ∃ (a : Addr) (ns : List Int), vs = [.ref a] ∧ SqL K H a (ns.map V.int) ∧ ns.length ≤ 63 ∧ ∀ H', Q (.bl true) H'
theorem lat_true {ds : List Wd} {z k : Nat} {L : Int} {ns : List Nat} (ho : out ds (wrun ds k L) = some (k, L)) (hup : ns.Pairwise (· < ·)) (hlen : ns.length = z + 1) (hall : ∀ j ∈ ns, has ds j = true ∧ fin ds j ≤ L) : latR ds z L (wrun ds k L) (0, ns) = true := by
  unfold latR lotV
  rw [ho]
  have h1 : inB ds.length ns = true := by
    unfold inB
    rw [List.all_eq_true]
    intro x hx
    exact decide_eq_true (has_lt (hall x hx).1)
  have h2 : upB ns = true := upB_iff.mpr fun j hj => by
    have := List.pairwise_iff_getElem.mp hup j (j + 1) (by omega) hj (by omega)
    rw [List.getD_eq_getElem?_getD, List.getD_eq_getElem?_getD, List.getElem?_eq_getElem (by omega), List.getElem?_eq_getElem hj]
    exact this
  have h3 : ns.all (has ds) = true := List.all_eq_true.mpr fun x hx => (hall x hx).1
  have h4 : (ns.all fun j => decide (fin ds j ≤ L)) = true := List.all_eq_true.mpr fun x hx => decide_eq_true (hall x hx).2
  dsimp only
  rw [h1, h2, h3, h4, decide_eq_true hlen, decide_eq_true rfl]
  rfl
theorem lat_next {ds : List Wd} {z k : Nat} {L : Int} {lo : Lo} (ho : out ds (wrun ds k L) = some (k, L)) : latR ds z (L + 1) (wrun ds k L) lo = false := by
  unfold latR
  rw [ho]
  dsimp only
  rw [decide_eq_false (by omega), Bool.false_and]
section
variable {P : Program} {w : World} {K : PySem.W.Frag} {mg : Str → Option Value} {base : Heap} {A : Ad}
theorem ok_law {f : Addr} {fd : FuncData} (F : Fun K "law" "law" s_law f fd) (T : Txt K mg A) (O__law_draw : Own P w K mg base CX0 "_law_draw" 1 pm__law_draw spDraw) (O__law_ways : Own P w K mg base CX0 "_law_ways" 3 pm__law_ways spWays) (O__law_made : Own P w K mg base CX0 "_law_made" 8 pm__law_made (spMade K A))
    (O_Race : OwnC P w K mg base (L2.CX P w) "Race" A.Race 6 pm_Race_init (spRaceInit K A)) (O__law_runs : Own P w K mg base CX0 "_law_runs" 2 pm__law_runs spRuns) (O__law_moment : Own P w K mg base CX0 "_law_moment" 2 pm__law_moment spMom) (O__law_told_right : Own P w K mg base CX0 "_law_told_right" 12 pm__law_told_right (spTR K A))
    (O__law_shown : Own P w K mg base CX0 "_law_shown" 3 pm__law_shown spShown) (O__law_judged : Own P w K mg base CX0 "_law_judged" 9 pm__law_judged (spJ K A)) (O_latest_paper : Own P w K mg base CX0 "latest_paper" 11 pm_latest_paper (spLatP K A)) (O_Race_latest : OwnM P w K mg base CX0 A.Race "latest" 3 pm_Race_latest (spLatest K A))
    (O__law_latest : Own P w K mg base CX0 "_law_latest" 2 pm__law_latest spLatL) (O_shows_latest : Own P w K mg base CX0 "shows_latest" 6 pm_shows_latest (spShL K A)) : FnOk P w K mg base CX0 14 f fd pm_law (spLaw K) := by
  refine F.ok sc_law (fun vs H Q E h => ?_) (fun cdv A' outer sh H vs Q E hr h => ?_)
  · obtain ⟨_, _, rfl, _⟩ := h
    rfl
  · obtain ⟨a, ns, rfl, hS, hlen, k⟩ := h
    refine ⟨_, pss_cons (ps_set (i := 1) sc_law.nd rfl (Or.inl rfl) (pe_lst (pa_cons (pe_callTy call_list_of (by rfl) T.n_list (by decide +kernel) (pa_cons (pv 0) pa_nil)) (pa_cons (pe_int) pa_nil))))
      (pss_cons (ps_set (i := 2) sc_law.nd rfl (Or.inl rfl) (pe_own O__law_ways (hr.mono (by decide)) pass0 (pa_cons (pv 1) (pa_cons (pe_int) pa_nil))))
      (pss_cons (ps_set (i := 3) sc_law.nd rfl (Or.inl rfl) (pe_own O__law_draw (hr.mono (by decide)) pass0 (pa_cons (pv 1) (pa_cons (pe_int) pa_nil))))
      (pss_cons (ps_set (i := 4) sc_law.nd rfl (Or.inl rfl) (pe_new O_Race (hr.mono (by decide)) passL (pa_cons (pe_own O__law_made (hr.mono (by decide)) pass0 (pa_cons (pv 2) pa_nil)) (pa_cons (pv 3) pa_nil))))
      (pss_cons (ps_set (i := 5) sc_law.nd rfl (Or.inl rfl) (pe_own O__law_runs (hr.mono (by decide)) pass0 (pa_cons (pv 2) (pa_cons (pv 3) pa_nil))))
      (pss_cons (ps_for PassesOwn.never rfl (pi_range1 rfl T.n_range (pa_cons (pe_int) pa_nil)) (pg_name (i := 6) sc_law.nd rfl (Or.inl rfl)) (pss_cons (ps_set (i := 7) sc_law.nd rfl (Or.inl rfl) (pe_own O__law_draw (hr.mono (by decide)) pass0 (pa_cons (pv 1) (pa_cons (pe_callB call_len_seq (by rfl) T.n_len (by decide +kernel) (pa_cons (pv 2) pa_nil)) pa_nil))))
      (pss_cons (ps_set (i := 8) sc_law.nd rfl (Or.inl rfl) (pe_own O__law_moment (hr.mono (by decide)) pass0 (pa_cons (pv 1) (pa_cons (pv 2) (pa_cons (pv 7) pa_nil)))))
      (pss_cons (ps_if (pt_not (pt_val (pe_own O__law_told_right (hr.mono (by decide)) pass0 (pa_cons (pv 4) (pa_cons (pv 2) (pa_cons (pv 3) (pa_cons (pv 7) (pa_cons (pv 8) (pa_cons (pv 5) pa_nil))))))))) (pss_one (ps_ret (pe_bl))) (pss_nil))
      (pss_cons (ps_asg (pe_own O__law_shown (hr.mono (by decide)) pass0 (pa_cons (pv 1) (pa_cons (pv 2) (pa_cons (pv 3) (pa_cons (pv 8) (pa_cons (pv 5) pa_nil)))))) (pg_tup rfl (pgs_cons (pg_name (i := 9) sc_law.nd rfl (Or.inl rfl)) (pgs_cons (pg_name (i := 10) sc_law.nd rfl (Or.inl rfl)) (pgs_nil)))))
      (pss_one (ps_if (pt_not (pt_val (pe_own O__law_judged (hr.mono (by decide)) pass0 (pa_cons (pv 4) (pa_cons (pv 2) (pa_cons (pv 3) (pa_cons (pv 7) (pa_cons (pv 8) (pa_cons (pv 9) (pa_cons (pv 10) (pa_cons (pv 5) pa_nil))))))))))) (pss_one (ps_ret (pe_bl))) (pss_nil))))))))
      (pss_cons (ps_set (i := 11) sc_law.nd rfl (Or.inl rfl) (pe_own O_latest_paper (hr.mono (by decide)) pass0 (pa_cons (pv 4) pa_nil)))
      (pss_cons (ps_set (i := 12) sc_law.nd rfl (Or.inl rfl) (pe_ownM0 O_Race_latest (pv 4) T.Race.cl (hr.mono (by decide)) pass0))
      (pss_cons (ps_setLc (i := 13) (own := [("_law_way_here", 14)]) (g := gName 14) (by rfl) sc_law.nd rfl rfl (sw_true rfl rfl rfl (by decide +kernel)) (pi_list (pv 2)) (blkOk_by (own := [("_law_way_here", 14)]) (N := nm_law) (sc := defScope s_law) (by decide +kernel)) (fun _ _ _ _ _ => pg_name (i := 14) sc_law.nd rfl (Or.inl rfl)) (fun s1 H1 C1 cl fp => pts_one (pt_cmpR op_notN (pe_ix (ix_tupK (K := K) rfl) (pv 14) (pe_int) (fun _ _ => rfl)) (pe_non) (nomark _))) (fun s1 H1 C1 cl fp => pv 14))
      (pss_cons (ps_if (PW.pt (pw_or (pt_cmpR op_isN (pv 12) (pe_non) (nomark _)) (pw_or1 (pt_cmpR op_isN (pv 11) (pe_non) (nomark _))))) (pss_one (ps_ret (pe_and (pe_cmpR op_isN (pv 12) (pe_non) (nomark _)) (pe_and (pe_cmpR op_isN (pv 11) (pe_non) (nomark _)) (pe_one (pe_cmpR op_le (pe_callB call_len_seq (by rfl) T.n_len (by decide +kernel) (pa_cons (pv 13) pa_nil)) (pv 3) (nomark _))))))) (pss_nil))
      (pss_cons (ps_if (pt_not (pt_val (pe_own O__law_latest (hr.mono (by decide)) pass0 (pa_cons (pv 2) (pa_cons (pv 3) (pa_cons (pv 12) (pa_cons (pe_ix ix_tup (pv 11) (pe_int) (fun _ _ => rfl)) (pa_cons (pe_ix ix_tup (pv 11) (pe_int) (fun _ _ => rfl)) (pa_cons (pv 5) pa_nil))))))))) (pss_one (ps_ret (pe_bl))) (pss_nil))
      (pss_one (ps_ret (pe_and (pe_cmpR op_isBl (pe_own O_shows_latest (hr.mono (by decide)) pass0 (pa_cons (pv 4) (pa_cons (pv 12) (pa_cons (pe_ix ix_tup (pv 11) (pe_int) (fun _ _ => rfl)) (pa_cons (pe_ix ix_tup (pv 11) (pe_int) (fun _ _ => rfl)) pa_nil))))) (pe_bl) (nomark _)) (pe_one (pe_cmpR op_isBl (pe_own O_shows_latest (hr.mono (by decide)) pass0 (pa_cons (pv 4) (pa_cons (pe_op op_add (pv 12) (pe_int)) (pa_cons (pe_ix ix_tup (pv 11) (pe_int) (fun _ _ => rfl)) (pa_cons (pe_ix ix_tup (pv 11) (pe_int) (fun _ _ => rfl)) pa_nil))))) (pe_bl) (nomark _)))))))))))))))), ?_⟩
    refine ⟨_, rfl, a, _, rfl, .inl hS, fun s hs => ⟨by show 2 ≤ sizeLine; decide, fun b hb => ?_⟩⟩
    have hsb : s ≠ b := ne_of_none upd_same hb
    have st0 : StAt (upd (upd H s (.lst (ns.map V.int))) b (.lst [.ref s, .int 0])) b s 0 := ⟨ns, 0, upd_same, by rw [upd_ne hsb]; exact upd_same, hlen, Int.le_refl _, Int.le_refl _⟩
    generalize upd (upd H s (.lst (ns.map V.int))) b (.lst [.ref s, .int 0]) = H0 at st0 ⊢
    refine ⟨_, rfl, b, s, 0, 3, rfl, st0, by omega, by omega, by omega, fun D qs ds H1 hD1 nDb nDs tu1 l1 l3 st1 x1 => ?_⟩
    refine ⟨_, rfl, b, s, 40, 3, rfl, st1, by omega, by omega, by omega, fun z0 H2 z00 z03 st2 x2 => ?_⟩
    obtain ⟨z, rfl⟩ : ∃ z : Nat, z0 = (z : Int) := ⟨z0.toNat, by omega⟩
    have hz : z ≤ 3 := by omega
    have hD2 := x2 D _ nDb nDs hD1
    have tu2 := tu1.to x2
    have h3 : ds.length ≤ 3 := by omega
    obtain ⟨hW2, hg, hnear⟩ := wl_of hD2 tu2
    have hf := gds_fit hg
    refine ⟨_, rfl, D, b, s, qs, ds, rfl, hD2, tu2, by rw [tu2.1]; omega, fun M ps H3 e3 hM0 hM3 hw3 => ?_⟩
    refine ⟨_, rfl, fun p dx hp hdx hne => mk_race T hp hdx hne (.inl hM3) hw3 l1 (by omega) ⟨z00, by omega⟩ fun H4 e4 hR4 => ⟨rfl, ?_⟩⟩
    have hW4 := (hW2.ext e3).ext e4
    have st4 := (st2.ext e3).ext e4
    clear hW2 tu1 tu2 hD1 hD2 st0 st1 st2 x1 x2 hM3 hw3 e3 e4
    have few : (lim (z : Int) ds).length ≤ 125 := lim_few hnear h3
    have some' : 1 ≤ (lim (z : Int) ds).length := lim_ne hf (by omega)
    -- due
    refine ⟨_, rfl, _, rfl, D, ds, (z : Int), rfl, hW4, hg, h3, fun L ys H5 e5 hL0 hL ry => ?_⟩
    have hW5 := hW4.ext e5
    have hR5 := hR4.ext e5
    have st5 := st4.ext e5
    obtain ⟨nLb, nLs⟩ := st4.new hL0
    clear hW4 hR4 st4 e5 hL0
    have hk : ∀ H', Q (.bl true) H' := k
    refine ⟨6, rfl, by omega, by omega, ?_⟩
    refine for_range (n := 6) (fun i σ' H' => ∃ o6 o7 o8 o9 o10, σ' = [some (.ref a), some (.ref b), some (.ref D), some (.int (z : Int)), some (.ref p), some (.ref L), o6, o7, o8, o9, o10, Option.none, Option.none, Option.none, Option.none] ∧ StAt H' b s (41 + 80 * i) ∧ RaceD K A H' p ds (z : Int) ∧ Wl H' D ds ∧ H' L = some (.lst ys) ∧ Rel2 (RnAt H') ys (lim (z : Int) ds)) ⟨_, _, _, _, _, rfl, st5, hR5, hW5, hL, ry⟩ (fun i σ' H6 hi pv => ?_) (fun σ' H6 pv => ?_)
    · obtain ⟨o6, o7, o8, o9, o10, rfl, st6, hR6, hW6, hL6, ry6⟩ := pv
      obtain ⟨qs6, hD6, rq6⟩ := id hW6
      refine ⟨_, rfl, _, rfl, D, _, rfl, .inl (SqL.of hD6), b, s, _, (qs6.length : Int), rfl, st6, by omega, by rw [rq6.len]; omega, by rw [rq6.len]; omega, fun k0 H7 k00 k01 st7 x7 => ?_⟩
      obtain ⟨kk, rfl⟩ : ∃ kk : Nat, k0 = (kk : Int) := ⟨k0.toNat, by omega⟩
      have hkk : kk < ds.length := by rw [← rq6.len]; omega
      have hW7 := wl_s st6 hW6 nDb nDs x7
      have hR7 := race_s st6 x7 hR6
      have hL7 := x7 L _ nLb nLs hL6
      have ry7 := ry6.to (RnAt.k (kt_s st6 x7))
      refine ⟨_, rfl, _, rfl, _, rfl, b, s, _, D, ds, kk, rfl, st7, by omega, hW7, nDb, nDs, hg, hkk, fun t H8 st8 x8 => ?_⟩
      have hW8 := wl_s st7 hW7 nDb nDs x8
      have hR8 := race_s st7 x8 hR7
      have hL8 := x8 L _ nLb nLs hL7
      have ry8 := ry7.to (RnAt.k (kt_s st7 x8))
      refine ⟨_, rfl, _, rfl, _, rfl, _, rfl, _, rfl, _, rfl, p, D, L, ds, z, kk, t, ys, rfl, hR8, hW8, hf, by omega, hkk, hL8, ry8, by omega, fun H9 e9 => ⟨_, rfl, iteF ?_⟩⟩
      have hW9 := hW8.ext e9
      have hR9 := hR8.ext e9
      have hL9 := e9 _ _ hL8
      have ry9 := ry8.to (RnAt.k (Ext.kt e9))
      have st9 := st8.ext e9
      refine ⟨_, rfl, _, rfl, _, rfl, _, rfl, _, rfl, b, s, _, D, L, ds, z, t, ys, _, rfl, st9, by omega, hW9, nDb, nDs, by omega, hL9, nLb, nLs, ry9, some', by omega, fun es h => (mem_lim.mp h).1, fun T2 x y rl lo H10 st10 x10 hT2 hrl hrl2 hlo hlo2 => ?_⟩
      have hW10 := wl_s st9 hW9 nDb nDs x10
      have hR10 := race_s st9 x10 hR9
      have hL10 := x10 L _ nLb nLs hL9
      have ry10 := ry9.to (RnAt.k (kt_s st9 x10))
      refine ⟨T2, _, rfl, SqT.of hT2, rfl, _, _, rfl, _, _, rfl, rfl, ?_⟩
      refine ⟨_, rfl, _, rfl, _, rfl, _, rfl, _, rfl, _, rfl, _, rfl, _, rfl, p, D, L, ds, z, kk, t, x, y, rl, lo, ys, rfl, hR10, hW10, by omega, hkk, hrl, hrl2, hlo, hlo2, hL10, ry10, fun H11 e11 => ⟨_, rfl, iteF ?_⟩⟩
      exact ⟨_, _, _, _, _, rfl, (st10.ext e11).le (by omega), hR10.ext e11, hW10.ext e11, e11 _ _ hL10, ry10.to (RnAt.k (Ext.kt e11))⟩
    · obtain ⟨o6, o7, o8, o9, o10, rfl, st6, hR6, hW6, hL6, ry6⟩ := pv
      obtain ⟨qs, hD, rq⟩ := id hW6
      have last : ∀ (E0 E1 : List Int), E0.Perm (ends ds) → E0.Pairwise (· ≤ ·) → E1.Perm (ends ds) → E1.Pairwise (· ≤ ·) → E1 = E0 := fun E0 E1 p0 s0 p1 s1 => (p1.trans p0.symm).eq_of_pairwise (fun _ _ _ _ h1 h2 => Int.le_antisymm h1 h2) s1 s0
      have hel : ∀ E0 : List Int, E0.Perm (ends ds) → E0.length = ((List.range ds.length).filter (has ds)).length := fun E0 p0 => by
        rw [p0.length_eq]
        unfold ends plan
        rw [List.length_map]
      have pstep : ∀ (i : Nat) (acc : List V), acc.length = ((List.range i).filter (has ds)).length → (∀ v : V, has ds i = true → (acc ++ [v]).length = ((List.range (i + 1)).filter (has ds)).length) ∧ (has ds i = false → acc.length = ((List.range (i + 1)).filter (has ds)).length) := fun i acc h => by
        rw [List.range_succ, List.filter_append, List.length_append, List.filter_cons, List.filter_nil]
        refine ⟨fun v hh => ?_, fun hh => ?_⟩
        · rw [hh, if_pos rfl, List.length_append, h]
          rfl
        · rw [hh, if_neg (by decide), h]
          rfl
      refine ⟨_, rfl, p, ds, z, rfl, hR6, by omega, hf, fun E0 hp0 hs0 => ⟨fun hN H7 e7 => ?_, fun Lm hLm wn T2 v u ns2 H7 hcan e7 hT2 hv hu hup hlen2 hall => ?_⟩⟩
      · obtain ⟨dx, T1, ws, hp, hT, hws⟩ := id hR6
        refine ⟨_, rfl, p, dx, _, rfl, e7 _ _ hp, rfl, p, ds, (z : Int), rfl, hR6.ext e7, by omega, by omega, fun E1 H8 hp1 hs1 e8 => ?_⟩
        rw [last E0 E1 hp0 hs0 hp1 hs1, Int.toNat_natCast, hN]
        have e78 := e7.trans e8
        refine ⟨_, rfl, D, rfl, ⟨_, SqL.of (e78 _ _ hD)⟩, fun C hC => ?_⟩
        refine lc_list (xs := qs) (fun i H' => Ext H8 H' ∧ ∃ acc, H' C = some (.lst acc) ∧ acc.length = ((List.range i).filter (has ds)).length) ⟨Ext.upd hC, [], upd_same, rfl⟩ (fun i H' _ pv => SqL.of (pv.1 _ _ (e78 _ _ hD))) (fun i x H' hx pv => ?_) (fun H' pv => ?_)
        · obtain ⟨e9, acc, hC9, hal⟩ := pv
          have hi := (List.getElem?_eq_some_iff.mp hx).1
          rw [rq.len] at hi
          obtain ⟨d, hd⟩ : ∃ d, ds[i]? = some d := ⟨_, List.getElem?_eq_getElem hi⟩
          obtain ⟨x', hx', tq, rfl, ht⟩ := rq.got hd
          rw [hx'] at hx
          cases hx
          obtain ⟨s1, s2⟩ := pstep i acc hal
          refine ⟨rfl, _, rfl, tq, _, 0, bV d.1, rfl, rfl, SqT.of (e9 _ _ (e78 _ _ ht)), rfl, rfl, _, rfl, ?_⟩
          have hbb : decide (bV d.1 = V.non) = !has ds i := by rw [(at_d hd).1]; cases d.1 <;> rfl
          rw [hbb, Bool.not_not]
          cases hh : has ds i with
          | false => exact iteF ⟨e9, acc, hC9, s2 hh⟩
          | true =>
            refine iteT ⟨_, rfl, _, hC9, small_sz ?_, ext_mut e9 hC, _, upd_same, s1 _ hh⟩
            rw [hal]
            refine Nat.le_trans (List.length_filter_le _ _) ?_
            rw [List.length_range]
            omega
        · obtain ⟨e9, acc, hC9, hal⟩ := pv
          rw [rq.len, ← hel E0 hp0] at hal
          have hle : E0.length ≤ z := by
            rw [List.getElem?_eq_none_iff] at hN
            exact hN
          refine ⟨_, rfl, rfl, _, rfl, iteT ⟨_, rfl, rfl, _, rfl, iteT ⟨_, rfl, rfl, _, rfl, iteT ⟨_, rfl, C, acc, rfl, .inl (SqL.of hC9), _, rfl, _, _, rfl, rfl, ?_⟩⟩⟩⟩
          show Q (.bl (decide ((acc.length : Int) ≤ (z : Int)))) _
          rw [decide_eq_true (show (acc.length : Int) ≤ (z : Int) by omega)]
          exact k _
      · obtain ⟨dx, T1, ws, hp, hT, hws⟩ := id hR6
        refine ⟨_, rfl, p, dx, _, rfl, e7 _ _ hp, rfl, p, ds, (z : Int), rfl, hR6.ext e7, by omega, by omega, fun E1 H8 hp1 hs1 e8 => ?_⟩
        rw [last E0 E1 hp0 hs0 hp1 hs1, Int.toNat_natCast, hLm]
        have e78 := e7.trans e8
        refine ⟨_, rfl, D, rfl, ⟨_, SqL.of (e78 _ _ hD)⟩, fun C hC => ?_⟩
        refine lc_list (xs := qs) (fun i H' => Ext H8 H' ∧ ∃ acc, H' C = some (.lst acc) ∧ acc.length = ((List.range i).filter (has ds)).length) ⟨Ext.upd hC, [], upd_same, rfl⟩ (fun i H' _ pv => SqL.of (pv.1 _ _ (e78 _ _ hD))) (fun i x H' hx pv => ?_) (fun H' pv => ?_)
        · obtain ⟨e9, acc, hC9, hal⟩ := pv
          have hi := (List.getElem?_eq_some_iff.mp hx).1
          rw [rq.len] at hi
          obtain ⟨d, hd⟩ : ∃ d, ds[i]? = some d := ⟨_, List.getElem?_eq_getElem hi⟩
          obtain ⟨x', hx', tq, rfl, ht⟩ := rq.got hd
          rw [hx'] at hx
          cases hx
          obtain ⟨s1, s2⟩ := pstep i acc hal
          refine ⟨rfl, _, rfl, tq, _, 0, bV d.1, rfl, rfl, SqT.of (e9 _ _ (e78 _ _ ht)), rfl, rfl, _, rfl, ?_⟩
          have hbb : decide (bV d.1 = V.non) = !has ds i := by rw [(at_d hd).1]; cases d.1 <;> rfl
          rw [hbb, Bool.not_not]
          cases hh : has ds i with
          | false => exact iteF ⟨e9, acc, hC9, s2 hh⟩
          | true =>
            refine iteT ⟨_, rfl, _, hC9, small_sz ?_, ext_mut e9 hC, _, upd_same, s1 _ hh⟩
            rw [hal]
            refine Nat.le_trans (List.length_filter_le _ _) ?_
            rw [List.length_range]
            omega
        · obtain ⟨e9, acc, hC9, hal⟩ := pv
          have e79 := e78.trans e9
          have e89 := e8.trans e9
          obtain ⟨r1, r2, r3⟩ := wrun_of_can hf hcan
          have hwl : wrun ds wn Lm ∈ lim (z : Int) ds := mem_lim.mpr ⟨r1, r2⟩
          have hT9 := e89 _ _ hT2
          have hv9 := RnAt.k (Ext.kt e89) _ _ hv
          have hu9 := e89 _ _ hu
          have hlo : LoAt H' (.ref u) (0, ns2) := ⟨u, rfl, hu9⟩
          have hn1 : ns2.length ≤ 1000 := by omega
          have hlt := lat_true (z := z) r3 hup hlen2 hall
          have hrx : RxAt K H' v (toX (.inl (true, wrun ds wn Lm))) := ⟨hv9.ru, by show ((wrun ds wn Lm).map Sum.inl).length ≤ 1000; rw [List.length_map, r1.1]; omega⟩
          refine ⟨_, rfl, rfl, _, rfl, iteF ⟨_, rfl, rfl, _, rfl, iteF ?_⟩⟩
          refine ⟨_, rfl, _, rfl, _, rfl, _, rfl, T2, _, 0, v, rfl, rfl, SqT.of hT9, rfl, _, rfl, T2, _, 1, .ref u, rfl, rfl, SqT.of hT9, rfl, _, rfl, D, L, ds, z, Lm, v, .ref u, wrun ds wn Lm, (0, ns2), ys, rfl, hW6.ext e79, by omega, hv9, hwl, hlo, hn1, e79 _ _ hL6, ry6.to (RnAt.k (Ext.kt e79)), fun H10 e10 => ⟨_, rfl, ?_⟩⟩
          rw [hlt]
          have e710 := e79.trans e10
          refine iteF ⟨_, rfl, _, rfl, _, rfl, T2, _, 0, v, rfl, rfl, SqT.of (e10 _ _ hT9), rfl, _, rfl, T2, _, 1, .ref u, rfl, rfl, SqT.of (e10 _ _ hT9), rfl, p, ds, z, Lm, v, .ref u, toX (.inl (true, wrun ds wn Lm)), (0, ns2), rfl, hR6.ext e710, by omega, hrx.ext e10, hlo.ext e10, hn1, fun H11 e11 => ⟨_, _, rfl, rfl, _, rfl, ?_⟩⟩
          have e1011 := e10.trans e11
          rw [show latV ds z Lm (toX (.inl (true, wrun ds wn Lm))) (0, ns2) = true from (lat_rn r1 r2).trans hlt, decide_eq_true rfl]
          refine iteT ⟨_, rfl, _, rfl, _, _, rfl, rfl, _, rfl, T2, _, 0, v, rfl, rfl, SqT.of (e1011 _ _ hT9), rfl, _, rfl, T2, _, 1, .ref u, rfl, rfl, SqT.of (e1011 _ _ hT9), rfl, p, ds, z, Lm + 1, v, .ref u, toX (.inl (true, wrun ds wn Lm)), (0, ns2), rfl, hR6.ext (e710.trans e11), by omega, hrx.ext e1011, hlo.ext e1011, hn1, fun H12 e12 => ⟨_, _, rfl, rfl, ?_⟩⟩
          rw [show latV ds z (Lm + 1) (toX (.inl (true, wrun ds wn Lm))) (0, ns2) = false from (lat_rn r1 r2).trans (lat_next r3), decide_eq_true rfl]
          exact k _
end
end K18

set_option Elab.async false
set_option maxRecDepth 100000
set_option maxHeartbeats 4000000
namespace K19
open PySem PySem.Spec PyProof.Rows L2 K18
section
variable {P : Program} {w : World} {K : PySem.W.Frag} {mg : Str → Option Value} {base : Heap} {A : Ad}
theorem kit_ref {B C : Addr} {b : Bool} (i : PySem.W.isClsIn K C = true) (t : PySem.W.typeIn K (.ref C) = some (.type "type")) (s : PySem.W.subIn K (.ref B) (.ref C) = some b) (ss : PySem.W.subIn K (.ref B) (.ref B) = some true) : PySem.W.kitOne K (.ref B) (.ref C) = some b := by
  by_cases h : B = C
  · subst h
    rw [ss] at s
    cases s
    exact if_pos (beq_self_eq_true _)
  · have e : ((PySem.W.clsIn K C).isSome && PySem.W.typeIn K (.ref C) == some (.type "type")) = true := by
      have h1 : (PySem.W.clsIn K C).isSome = true := i
      rw [h1, t]
      rfl
    show (if (Value.ref B == Value.ref C) = true then some true else if ((PySem.W.clsIn K C).isSome && PySem.W.typeIn K (.ref C) == some (.type "type")) = true then PySem.W.subIn K (.ref B) (.ref C) else none) = some b
    rw [if_pos e]
    have hne : ¬ ((Value.ref B == Value.ref C) = true) := fun z => by
      have z' := eq_of_beq z
      injection z' with z'
      exact h z'
    rw [if_neg hne]
    exact s
theorem exm_ref {B C : Addr} {b : Bool} (x : PySem.W.subIn K (.ref C) (.type "BaseException") = some true) (i : PySem.W.isClsIn K C = true) (t : PySem.W.typeIn K (.ref C) = some (.type "type")) (s : PySem.W.subIn K (.ref B) (.ref C) = some b) : PySem.W.exmOne K (.ref B) (.ref C) = some b := by
  unfold PySem.W.exmOne PySem.W.kitCls
  have i' : (PySem.W.clsIn K C).isSome = true := i
  rw [x]
  dsimp only
  rw [i', t, s]
  rfl
theorem ve_one {W : Addr} : PySem.HandSPX.refsVE [.ref W, .type "ValueError", .type "Exception", .type "BaseException", .type "object"] = true := by
  show PySem.HandSPX.refsVE [.type "ValueError", .type "Exception", .type "BaseException", .type "object"] = true
  decide +kernel
theorem law_ok (T : Txt K mg A) (D_is_integer : DefAt K mg "is_integer" s_is_integer pm_is_integer) (D_is_between : DefAt K mg "is_between" s_is_between pm_is_between) (D_is_index : DefAt K mg "is_index" s_is_index pm_is_index) (D_is_list : DefAt K mg "is_list" s_is_list pm_is_list) (D_is_list_of : DefAt K mg "is_list_of" s_is_list_of pm_is_list_of) (D_is_tuple_of : DefAt K mg "is_tuple_of" s_is_tuple_of pm_is_tuple_of) (D_are_rising_indexes : DefAt K mg "are_rising_indexes" s_are_rising_indexes pm_are_rising_indexes) (D_is_lot : DefAt K mg "is_lot" s_is_lot pm_is_lot) (D_greater : DefAt K mg "greater" s_greater pm_greater) (D_is_begin : DefAt K mg "is_begin" s_is_begin pm_is_begin) (D_are_delays : DefAt K mg "are_delays" s_are_delays pm_are_delays) (D_is_box : DefAt K mg "is_box" s_is_box pm_is_box) (D_check_ways : DefAt K mg "check_ways" s_check_ways pm_check_ways) (D_check_silent : DefAt K mg "check_silent" s_check_silent pm_check_silent) (D_check_way : DefAt K mg "check_way" s_check_way pm_check_way) (D_fits : DefAt K mg "fits" s_fits pm_fits) (D_wrong_of : DefAt K mg "wrong_of" s_wrong_of pm_wrong_of) (D_outcome_of : DefAt K mg "outcome_of" s_outcome_of pm_outcome_of) (D_check_win : DefAt K mg "check_win" s_check_win pm_check_win) (D_answer_at : DefAt K mg "answer_at" s_answer_at pm_answer_at) (D_win_run : DefAt K mg "win_run" s_win_run pm_win_run) (D_in_window : DefAt K mg "in_window" s_in_window pm_in_window) (D_win_paper : DefAt K mg "win_paper" s_win_paper pm_win_paper) (D_ways_by_end : DefAt K mg "ways_by_end" s_ways_by_end pm_ways_by_end) (D_latest_paper : DefAt K mg "latest_paper" s_latest_paper pm_latest_paper) (D_ends_at : DefAt K mg "ends_at" s_ends_at pm_ends_at) (D_shows_win : DefAt K mg "shows_win" s_shows_win pm_shows_win) (D_shows_never : DefAt K mg "shows_never" s_shows_never pm_shows_never) (D_shows_latest : DefAt K mg "shows_latest" s_shows_latest pm_shows_latest) (D_shows_unanswered : DefAt K mg "shows_unanswered" s_shows_unanswered pm_shows_unanswered) (D__law_draw : DefAt K mg "_law_draw" s__law_draw pm__law_draw) (D__law_way : DefAt K mg "_law_way" s__law_way pm__law_way) (D__law_ways : DefAt K mg "_law_ways" s__law_ways pm__law_ways) (D__law_made : DefAt K mg "_law_made" s__law_made pm__law_made) (D__law_entries : DefAt K mg "_law_entries" s__law_entries pm__law_entries) (D__law_quiet : DefAt K mg "_law_quiet" s__law_quiet pm__law_quiet) (D__law_runs : DefAt K mg "_law_runs" s__law_runs pm__law_runs) (D__law_outcome : DefAt K mg "_law_outcome" s__law_outcome pm__law_outcome) (D__law_hurried : DefAt K mg "_law_hurried" s__law_hurried pm__law_hurried) (D__law_is_lot : DefAt K mg "_law_is_lot" s__law_is_lot pm__law_is_lot) (D__law_never : DefAt K mg "_law_never" s__law_never pm__law_never) (D__law_latest : DefAt K mg "_law_latest" s__law_latest pm__law_latest) (D__law_run_of : DefAt K mg "_law_run_of" s__law_run_of pm__law_run_of) (D__law_lot : DefAt K mg "_law_lot" s__law_lot pm__law_lot) (D__law_run : DefAt K mg "_law_run" s__law_run pm__law_run) (D__law_moment : DefAt K mg "_law_moment" s__law_moment pm__law_moment) (D__law_shown : DefAt K mg "_law_shown" s__law_shown pm__law_shown) (D__law_told_right : DefAt K mg "_law_told_right" s__law_told_right pm__law_told_right) (D__law_judged : DefAt K mg "_law_judged" s__law_judged pm__law_judged)
    (M_Way_window : MethAt K A.Way "window" "Way.window" s_Way_window pm_Way_window) (M_Race_init : MethAt K A.Race "__init__" "Race.__init__" s_Race_init pm_Race_init) (M_Race_planned : MethAt K A.Race "planned" "Race.planned" s_Race_planned pm_Race_planned) (M_Race_hurried : MethAt K A.Race "hurried" "Race.hurried" s_Race_hurried pm_Race_hurried) (M_Race_can_win : MethAt K A.Race "can_win" "Race.can_win" s_Race_can_win pm_Race_can_win) (M_Race_latest : MethAt K A.Race "latest" "Race.latest" s_Race_latest pm_Race_latest) (M_Outcome_init : MethAt K A.Outcome "__init__" "Outcome.__init__" s_Outcome_init pm_Outcome_init) (m1_Race : PySem.W.makesIn K A.Race = true) (m2_Race : PySem.W.keepIn K (.ref A.Race) = true) (m1_Outcome : PySem.W.makesIn K A.Outcome = true) (m2_Outcome : PySem.W.keepIn K (.ref A.Outcome) = true)
    {fi : Addr} {fdi : FuncData} (FI : FunD K "__init__" "Way.__init__" (defArgs s_Way_init) (defBody s_Way_init) (defScope s_Way_init) [.ref A.T0] [] fi fdi) (MI : Mk K A.Way fi) (B4 : Binds K fdi pm_Way_init []) {d3 : List Value} (V3 : Vals [.ref A.T0] d3) (B3 : Binds K fdi pm_Way_init d3)
    {f : Addr} {fd : FuncData} (F : Fun K "law" "law" s_law f fd) : FnOk P w K mg base CX0 14 f fd pm_law (spLaw K) := by
  have X_BadPart : XCls P w K mg base "BadPart" "part" A.BadPart := T.BadPart.cls fun _ _ F => ok_xp F T
  have X_BadBox : XCls P w K mg base "BadBox" "index" A.BadBox := T.BadBox.cls fun _ _ F => ok_xb F T
  have X_NoWay : XCls P w K mg base "NoWay" "way" A.NoWay := T.NoWay.cls fun _ _ F => ok_xn F T
  have X_CannotWin : XCls P w K mg base "CannotWin" "way" A.CannotWin := T.CannotWin.cls fun _ _ F => ok_xc F T

  have O1 : Own P w K mg base CX0 "is_integer" 1 pm_is_integer (spInteger K) := D_is_integer.own fun f fd F => ok_integer F T
  have O2 : Own P w K mg base CX0 "is_between" 2 pm_is_between (spBetween K) := D_is_between.own fun f fd F => ok_between F O1
  have O3 : Own P w K mg base CX0 "is_index" 3 pm_is_index (spIndex K) := D_is_index.own fun f fd F => ok_index F O2
  have O4 : Own P w K mg base CX0 "is_list" 1 pm_is_list (spIsList K) := D_is_list.own fun f fd F => ok_isList F T
  have O5 : Own P w K mg base CX0 "is_list_of" 2 pm_is_list_of (spListOf K) := D_is_list_of.own fun f fd F => ok_listOf F T O4
  have O6 : Own P w K mg base CX0 "is_tuple_of" 1 pm_is_tuple_of (spTupleOf K) := D_is_tuple_of.own fun f fd F => ok_tupleOf F T
  have O7 : Own P w K mg base CX0 "is_begin" 3 pm_is_begin (spBegin K) := D_is_begin.own fun f fd F => ok_begin F T O2
  have O8 : Own P w K mg base CX0 "are_delays" 3 pm_are_delays (spDelays K) := D_are_delays.own fun f fd F => ok_delays F T O2
  have O9 : Own P w K mg base CX0 "is_box" 3 pm_is_box (spBoxOk K) := D_is_box.own fun f fd F => ok_box F T O2 O6
  have GI : FnOk P w K mg base (L2.CX P w) 5 fi fdi pm_Way_init (spWayInit K A) := ok_wayInit FI T O7 O8 O5 O9 X_BadPart X_BadBox
  have OW3 : OwnCD P w K mg base (L2.CX P w) "Way" A.Way 5 pm_Way_init (spWayInit K A) [.ref A.T0] := ⟨fi, fdi, d3, GI, MI, T.Way.gC, B3, V3⟩
  have OWw : OwnM P w K mg base CX0 A.Way "window" 1 pm_Way_window (spWindow K A) := M_Way_window.own fun f fd F => ok_window F T
  have O10 : Own P w K mg base (L2.CX P w) "check_ways" 4 pm_check_ways (spCheckWays K A) := D_check_ways.own fun f fd F => ok_checkWays F T O5 X_BadPart
  have O11 : Own P w K mg base (L2.CX P w) "check_silent" 4 pm_check_silent (spCheckSilent K A) := D_check_silent.own fun f fd F => ok_checkSilent F T O2 X_BadPart
  have O12 : Own P w K mg base (L2.CX P w) "check_way" 5 pm_check_way (spChk K A) := D_check_way.own fun f fd F => ok_checkWay F T O3 X_NoWay
  have OR : OwnC P w K mg base (L2.CX P w) "Race" A.Race 6 pm_Race_init (spRaceInit K A) := M_Race_init.cls (fun f fd F => ok_raceInit F T O10 O11) m1_Race m2_Race T.Race.gC
  have ORp : OwnM P w K mg base CX0 A.Race "planned" 2 pm_Race_planned (spPlanned K A) := M_Race_planned.own fun f fd F => ok_planned F T
  have OR1 : OwnM P w K mg base (L2.CX P w) A.Race "hurried" 7 pm_Race_hurried (spHur K A) := M_Race_hurried.own fun f fd F => ok_hurried F T O12 ORp OWw
  have OR2 : OwnM P w K mg base (L2.CX P w) A.Race "can_win" 8 pm_Race_can_win (spCan K A) := M_Race_can_win.own fun f fd F => ok_canWin F T O12 OR1 OWw O1
  have OR3 : OwnM P w K mg base CX0 A.Race "latest" 3 pm_Race_latest (spLatest K A) := M_Race_latest.own fun f fd F => ok_latest F T ORp OWw
  have OO : OwnC P w K mg base CX0 "Outcome" A.Outcome 1 pm_Outcome_init (spOInit A) := M_Outcome_init.cls (fun f fd F => ok_oInit F T) m1_Outcome m2_Outcome T.Outcome.gC
  have P1 : Own P w K mg base CX0 "greater" 1 pm_greater spGreater := D_greater.own fun f fd F => ok_greater F T
  have P2 : Own P w K mg base CX0 "fits" 3 pm_fits (spFits K A) := D_fits.own fun f fd F => ok_fits F T O2 O6
  have P3 : Own P w K mg base CX0 "wrong_of" 4 pm_wrong_of (spWrongX K A) := D_wrong_of.own fun f fd F => ok_wrongX F T P1 P2 ORp
  have P4 : Own P w K mg base CX0 "outcome_of" 4 pm_outcome_of (spOutOf K A) := D_outcome_of.own fun f fd F => ok_outOf F T ORp OO
  have P5 : Own P w K mg base (L2.CX P w) "check_win" 9 pm_check_win (spCheckWin K A) := D_check_win.own fun f fd F => ok_checkWin F T OR2 X_CannotWin
  have P6 : Own P w K mg base CX0 "answer_at" 2 pm_answer_at (spAns K A) := D_answer_at.own fun f fd F => ok_ans F T P1
  have P7 : Own P w K mg base (L2.CX P w) "win_run" 10 pm_win_run (spWinRun K A) := D_win_run.own fun f fd F => ok_winRun F T P5 OR1 P6
  have P8 : Own P w K mg base CX0 "in_window" 2 pm_in_window (spInW K A) := D_in_window.own fun f fd F => ok_inW F T OWw
  have P9 : Own P w K mg base CX0 "win_paper" 11 pm_win_paper (spWinP K A) := D_win_paper.own fun f fd F => ok_winP F T OR2 OR1 P7 P8
  have PA : Own P w K mg base CX0 "ways_by_end" 3 pm_ways_by_end (spByEnd K A) := D_ways_by_end.own fun f fd F => ok_byEnd F T ORp OWw
  have PB : Own P w K mg base CX0 "latest_paper" 11 pm_latest_paper (spLatP K A) := D_latest_paper.own fun f fd F => ok_latP F T OR3 PA P7
  have PC : Own P w K mg base CX0 "are_rising_indexes" 4 pm_are_rising_indexes (spRise K) := D_are_rising_indexes.own fun f fd F => ok_rise F T O3
  have PD : Own P w K mg base CX0 "is_lot" 5 pm_is_lot (spLot K) := D_is_lot.own fun f fd F => ok_lot F T PC
  have PE1 : Own P w K mg base CX0 "ends_at" 5 pm_ends_at (spEnds K A) := D_ends_at.own fun f fd F => ok_ends F T O1 P3 P4
  have PF : Own P w K mg base CX0 "shows_win" 6 pm_shows_win (spShW K A) := D_shows_win.own fun f fd F => ok_shW F T O3 PE1
  have PG1 : Own P w K mg base CX0 "shows_never" 8 pm_shows_never (spShN K A) := D_shows_never.own fun f fd F => ok_shN F T O3 O1 PD P8 OR1
  have PH : Own P w K mg base CX0 "shows_latest" 6 pm_shows_latest (spShL K A) := D_shows_latest.own fun f fd F => ok_shL F T PE1 PD ORp OWw
  have PI1 : Own P w K mg base CX0 "shows_unanswered" 5 pm_shows_unanswered (spShU K A) := D_shows_unanswered.own fun f fd F => ok_shU F T P3 P4
  have O17 : Own P w K mg base CX0 "_law_draw" 1 pm__law_draw spDraw := D__law_draw.own fun f fd F => ok_draw F T
  have O18 : Own P w K mg base CX0 "_law_way" 2 pm__law_way spWay := D__law_way.own fun f fd F => ok_way F O17
  have O19 : Own P w K mg base CX0 "_law_ways" 3 pm__law_ways spWays := D__law_ways.own fun f fd F => ok_ways F T O17 O18
  have O20 : Own P w K mg base CX0 "_law_made" 8 pm__law_made (spMade K A) := D__law_made.own fun f fd F => ok_made F T OW3
  have O21 : Own P w K mg base CX0 "_law_entries" 1 pm__law_entries spEnts := D__law_entries.own fun f fd F => ok_entries F T
  have O22 : Own P w K mg base CX0 "_law_quiet" 1 pm__law_quiet spQuiet := D__law_quiet.own fun f fd F => ok_quiet F T
  have O23 : Own P w K mg base CX0 "_law_runs" 2 pm__law_runs spRuns := D__law_runs.own fun f fd F => ok_runs F T O21 O22
  have O24 : Own P w K mg base CX0 "_law_outcome" 1 pm__law_outcome spOut := D__law_outcome.own fun f fd F => ok_outcome F T
  have Q1 : Own P w K mg base CX0 "_law_run_of" 11 pm__law_run_of (spRunOf K A) := D__law_run_of.own fun f fd F => ok_runOf F T P7
  have Q2 : Own P w K mg base CX0 "_law_hurried" 1 pm__law_hurried spHurL := D__law_hurried.own fun f fd F => ok_hurL F T
  have Q3 : Own P w K mg base CX0 "_law_is_lot" 1 pm__law_is_lot spLotL := D__law_is_lot.own fun f fd F => ok_lotL F T
  have Q4 : Own P w K mg base CX0 "_law_never" 2 pm__law_never spNevL := D__law_never.own fun f fd F => ok_nevL F T Q3 Q2
  have Q5 : Own P w K mg base CX0 "_law_latest" 2 pm__law_latest spLatL := D__law_latest.own fun f fd F => ok_latL F T O24 Q3
  have Q6 : Own P w K mg base CX0 "_law_moment" 2 pm__law_moment spMom := D__law_moment.own fun f fd F => ok_moment F O17
  have Q7 : Own P w K mg base CX0 "_law_lot" 2 pm__law_lot spLotD := D__law_lot.own fun f fd F => ok_lotD F T O17
  have Q8 : Own P w K mg base CX0 "_law_run" 2 pm__law_run spRunD := D__law_run.own fun f fd F => ok_runD F T O17
  have Q9 : Own P w K mg base CX0 "_law_shown" 3 pm__law_shown spShown := D__law_shown.own fun f fd F => ok_shown F T O17 O24 Q8 Q7
  have QA : Own P w K mg base CX0 "_law_told_right" 12 pm__law_told_right (spTR K A) := D__law_told_right.own fun f fd F => ok_tr F T O24 P9 Q1 PF Q4 PG1
  have QB : Own P w K mg base CX0 "_law_judged" 9 pm__law_judged (spJ K A) := D__law_judged.own fun f fd F => ok_judged F T PF O24 PG1 Q4 PI1 PH Q5
  exact ok_law F T O17 O19 O20 OR O23 Q6 QA Q9 QB PB OR3 Q5 PH
end
theorem all_mk {P : Program} {w : World} {K : PySem.W.Frag} {h : Heap} {mg : Str → Option Value} {fa  Td AT0 ABadPart ABadBox ANoWay ACannotWin AWholeError AWay ARace AOutcome f_is_integer f_is_between f_is_index f_is_list f_is_list_of f_is_tuple_of f_are_rising_indexes f_is_lot f_greater f_is_begin f_are_delays f_is_box f_check_ways f_check_silent f_check_way f_fits f_wrong_of f_outcome_of f_check_win f_answer_at f_win_run f_in_window f_win_paper f_ways_by_end f_latest_paper f_ends_at f_shows_win f_shows_never f_shows_latest f_shows_unanswered f__law_draw f__law_way f__law_ways f__law_made f__law_entries f__law_quiet f__law_runs f__law_outcome f__law_hurried f__law_is_lot f__law_never f__law_latest f__law_run_of f__law_lot f__law_run f__law_moment f__law_shown f__law_told_right f__law_judged f_law f_BadPart_init f_BadBox_init f_NoWay_init f_CannotWin_init f_Way_init f_Way_window f_Race_init f_Race_planned f_Race_hurried f_Race_can_win f_Race_latest f_Outcome_init : Addr} (X : K.In h) (G : h.Ns mainGlobals mg) (hfa : mg "law" = some (.ref fa))
    {od_is_integer an_is_integer od_is_between an_is_between od_is_index an_is_index od_is_list an_is_list od_is_list_of an_is_list_of od_is_tuple_of an_is_tuple_of od_are_rising_indexes an_are_rising_indexes od_is_lot an_is_lot od_greater an_greater od_is_begin an_is_begin od_are_delays an_are_delays od_is_box an_is_box od_check_ways an_check_ways od_check_silent an_check_silent od_check_way an_check_way od_fits an_fits od_wrong_of an_wrong_of od_outcome_of an_outcome_of od_check_win an_check_win od_answer_at an_answer_at od_win_run an_win_run od_in_window an_in_window od_win_paper an_win_paper od_ways_by_end an_ways_by_end od_latest_paper an_latest_paper od_ends_at an_ends_at od_shows_win an_shows_win od_shows_never an_shows_never od_shows_latest an_shows_latest od_shows_unanswered an_shows_unanswered od__law_draw an__law_draw od__law_way an__law_way od__law_ways an__law_ways od__law_made an__law_made od__law_entries an__law_entries od__law_quiet an__law_quiet od__law_runs an__law_runs od__law_outcome an__law_outcome od__law_hurried an__law_hurried od__law_is_lot an__law_is_lot od__law_never an__law_never od__law_latest an__law_latest od__law_run_of an__law_run_of od__law_lot an__law_lot od__law_run an__law_run od__law_moment an__law_moment od__law_shown an__law_shown od__law_told_right an__law_told_right od__law_judged an__law_judged od_law an_law od_BadPart_init an_BadPart_init od_BadBox_init an_BadBox_init od_NoWay_init an_NoWay_init od_CannotWin_init an_CannotWin_init od_Way_init an_Way_init od_Way_window an_Way_window od_Race_init an_Race_init od_Race_planned an_Race_planned od_Race_hurried an_Race_hurried od_Race_can_win an_Race_can_win od_Race_latest an_Race_latest od_Outcome_init an_Outcome_init ddt edt : Option Addr} {sl_is_integer sl_is_between sl_is_index sl_is_list sl_is_list_of sl_is_tuple_of sl_are_rising_indexes sl_is_lot sl_greater sl_is_begin sl_are_delays sl_is_box sl_check_ways sl_check_silent sl_check_way sl_fits sl_wrong_of sl_outcome_of sl_check_win sl_answer_at sl_win_run sl_in_window sl_win_paper sl_ways_by_end sl_latest_paper sl_ends_at sl_shows_win sl_shows_never sl_shows_latest sl_shows_unanswered sl__law_draw sl__law_way sl__law_ways sl__law_made sl__law_entries sl__law_quiet sl__law_runs sl__law_outcome sl__law_hurried sl__law_is_lot sl__law_never sl__law_latest sl__law_run_of sl__law_lot sl__law_run sl__law_moment sl__law_shown sl__law_told_right sl__law_judged sl_law sl_BadPart_init sl_BadBox_init sl_NoWay_init sl_CannotWin_init sl_Way_init sl_Way_window sl_Race_init sl_Race_planned sl_Race_hurried sl_Race_can_win sl_Race_latest sl_Outcome_init dsl esl : Array (Option Value)} {oc_is_integer kV_is_integer dc_is_integer pm_is_integer_ cd_is_integer ct_is_integer oc_is_between kV_is_between dc_is_between pm_is_between_ cd_is_between ct_is_between oc_is_index kV_is_index dc_is_index pm_is_index_ cd_is_index ct_is_index oc_is_list kV_is_list dc_is_list pm_is_list_ cd_is_list ct_is_list oc_is_list_of kV_is_list_of dc_is_list_of pm_is_list_of_ cd_is_list_of ct_is_list_of oc_is_tuple_of kV_is_tuple_of dc_is_tuple_of pm_is_tuple_of_ cd_is_tuple_of ct_is_tuple_of oc_are_rising_indexes kV_are_rising_indexes dc_are_rising_indexes pm_are_rising_indexes_ cd_are_rising_indexes ct_are_rising_indexes oc_is_lot kV_is_lot dc_is_lot pm_is_lot_ cd_is_lot ct_is_lot oc_greater kV_greater dc_greater pm_greater_ cd_greater ct_greater oc_is_begin kV_is_begin dc_is_begin pm_is_begin_ cd_is_begin ct_is_begin oc_are_delays kV_are_delays dc_are_delays pm_are_delays_ cd_are_delays ct_are_delays oc_is_box kV_is_box dc_is_box pm_is_box_ cd_is_box ct_is_box oc_check_ways kV_check_ways dc_check_ways pm_check_ways_ cd_check_ways ct_check_ways oc_check_silent kV_check_silent dc_check_silent pm_check_silent_ cd_check_silent ct_check_silent oc_check_way kV_check_way dc_check_way pm_check_way_ cd_check_way ct_check_way oc_fits kV_fits dc_fits pm_fits_ cd_fits ct_fits oc_wrong_of kV_wrong_of dc_wrong_of pm_wrong_of_ cd_wrong_of ct_wrong_of oc_outcome_of kV_outcome_of dc_outcome_of pm_outcome_of_ cd_outcome_of ct_outcome_of oc_check_win kV_check_win dc_check_win pm_check_win_ cd_check_win ct_check_win oc_answer_at kV_answer_at dc_answer_at pm_answer_at_ cd_answer_at ct_answer_at oc_win_run kV_win_run dc_win_run pm_win_run_ cd_win_run ct_win_run oc_in_window kV_in_window dc_in_window pm_in_window_ cd_in_window ct_in_window oc_win_paper kV_win_paper dc_win_paper pm_win_paper_ cd_win_paper ct_win_paper oc_ways_by_end kV_ways_by_end dc_ways_by_end pm_ways_by_end_ cd_ways_by_end ct_ways_by_end oc_latest_paper kV_latest_paper dc_latest_paper pm_latest_paper_ cd_latest_paper ct_latest_paper oc_ends_at kV_ends_at dc_ends_at pm_ends_at_ cd_ends_at ct_ends_at oc_shows_win kV_shows_win dc_shows_win pm_shows_win_ cd_shows_win ct_shows_win oc_shows_never kV_shows_never dc_shows_never pm_shows_never_ cd_shows_never ct_shows_never oc_shows_latest kV_shows_latest dc_shows_latest pm_shows_latest_ cd_shows_latest ct_shows_latest oc_shows_unanswered kV_shows_unanswered dc_shows_unanswered pm_shows_unanswered_ cd_shows_unanswered ct_shows_unanswered oc__law_draw kV__law_draw dc__law_draw pm__law_draw_ cd__law_draw ct__law_draw oc__law_way kV__law_way dc__law_way pm__law_way_ cd__law_way ct__law_way oc__law_ways kV__law_ways dc__law_ways pm__law_ways_ cd__law_ways ct__law_ways oc__law_made kV__law_made dc__law_made pm__law_made_ cd__law_made ct__law_made oc__law_entries kV__law_entries dc__law_entries pm__law_entries_ cd__law_entries ct__law_entries oc__law_quiet kV__law_quiet dc__law_quiet pm__law_quiet_ cd__law_quiet ct__law_quiet oc__law_runs kV__law_runs dc__law_runs pm__law_runs_ cd__law_runs ct__law_runs oc__law_outcome kV__law_outcome dc__law_outcome pm__law_outcome_ cd__law_outcome ct__law_outcome oc__law_hurried kV__law_hurried dc__law_hurried pm__law_hurried_ cd__law_hurried ct__law_hurried oc__law_is_lot kV__law_is_lot dc__law_is_lot pm__law_is_lot_ cd__law_is_lot ct__law_is_lot oc__law_never kV__law_never dc__law_never pm__law_never_ cd__law_never ct__law_never oc__law_latest kV__law_latest dc__law_latest pm__law_latest_ cd__law_latest ct__law_latest oc__law_run_of kV__law_run_of dc__law_run_of pm__law_run_of_ cd__law_run_of ct__law_run_of oc__law_lot kV__law_lot dc__law_lot pm__law_lot_ cd__law_lot ct__law_lot oc__law_run kV__law_run dc__law_run pm__law_run_ cd__law_run ct__law_run oc__law_moment kV__law_moment dc__law_moment pm__law_moment_ cd__law_moment ct__law_moment oc__law_shown kV__law_shown dc__law_shown pm__law_shown_ cd__law_shown ct__law_shown oc__law_told_right kV__law_told_right dc__law_told_right pm__law_told_right_ cd__law_told_right ct__law_told_right oc__law_judged kV__law_judged dc__law_judged pm__law_judged_ cd__law_judged ct__law_judged oc_law kV_law dc_law pm_law_ cd_law ct_law oc_BadPart_init kV_BadPart_init dc_BadPart_init pm_BadPart_init_ cd_BadPart_init ct_BadPart_init oc_BadBox_init kV_BadBox_init dc_BadBox_init pm_BadBox_init_ cd_BadBox_init ct_BadBox_init oc_NoWay_init kV_NoWay_init dc_NoWay_init pm_NoWay_init_ cd_NoWay_init ct_NoWay_init oc_CannotWin_init kV_CannotWin_init dc_CannotWin_init pm_CannotWin_init_ cd_CannotWin_init ct_CannotWin_init oc_Way_init kV_Way_init dc_Way_init pm_Way_init_ cd_Way_init ct_Way_init oc_Way_window kV_Way_window dc_Way_window pm_Way_window_ cd_Way_window ct_Way_window oc_Race_init kV_Race_init dc_Race_init pm_Race_init_ cd_Race_init ct_Race_init oc_Race_planned kV_Race_planned dc_Race_planned pm_Race_planned_ cd_Race_planned ct_Race_planned oc_Race_hurried kV_Race_hurried dc_Race_hurried pm_Race_hurried_ cd_Race_hurried ct_Race_hurried oc_Race_can_win kV_Race_can_win dc_Race_can_win pm_Race_can_win_ cd_Race_can_win ct_Race_can_win oc_Race_latest kV_Race_latest dc_Race_latest pm_Race_latest_ cd_Race_latest ct_Race_latest oc_Outcome_init kV_Outcome_init dc_Outcome_init pm_Outcome_init_ cd_Outcome_init ct_Outcome_init dcl : Value} {t_MOST_BEGIN t_MOST_DELAY t_MOST_BOXES t_MOST_KEEP t_MOST_WAYS t_MOST_SILENT : Tok} {dn en : Nat}
    {xBadPart_nm xBadPart_q : Str} {xBadPart_N : Addr} {xBadPart_bs : List Value} {xBadPart_sn : List Str} {xBadPart_sub : List Value} {xBadPart_ab : Bool} {xBadPart_col : Option Bool} {xBadPart_dd : Option Addr} {xBadPart_m0 xBadPart_m1 xBadPart_m2 xBadPart_m3 xBadPart_m5 : Option Value}
    {xBadBox_nm xBadBox_q : Str} {xBadBox_N : Addr} {xBadBox_bs : List Value} {xBadBox_sn : List Str} {xBadBox_sub : List Value} {xBadBox_ab : Bool} {xBadBox_col : Option Bool} {xBadBox_dd : Option Addr} {xBadBox_m0 xBadBox_m1 xBadBox_m2 xBadBox_m3 xBadBox_m5 : Option Value}
    {xNoWay_nm xNoWay_q : Str} {xNoWay_N : Addr} {xNoWay_bs : List Value} {xNoWay_sn : List Str} {xNoWay_sub : List Value} {xNoWay_ab : Bool} {xNoWay_col : Option Bool} {xNoWay_dd : Option Addr} {xNoWay_m0 xNoWay_m1 xNoWay_m2 xNoWay_m3 xNoWay_m5 : Option Value}
    {xCannotWin_nm xCannotWin_q : Str} {xCannotWin_N : Addr} {xCannotWin_bs : List Value} {xCannotWin_sn : List Str} {xCannotWin_sub : List Value} {xCannotWin_ab : Bool} {xCannotWin_col : Option Bool} {xCannotWin_dd : Option Addr} {xCannotWin_m0 xCannotWin_m1 xCannotWin_m2 xCannotWin_m3 xCannotWin_m5 : Option Value}
    (g_BadPart : PySem.W.nsIn K mainGlobals "BadPart" = some (some (.ref ABadPart)))
    (g_BadBox : PySem.W.nsIn K mainGlobals "BadBox" = some (some (.ref ABadBox)))
    (g_NoWay : PySem.W.nsIn K mainGlobals "NoWay" = some (some (.ref ANoWay)))
    (g_CannotWin : PySem.W.nsIn K mainGlobals "CannotWin" = some (some (.ref ACannotWin)))
    (g_WholeError : PySem.W.nsIn K mainGlobals "WholeError" = some (some (.ref AWholeError)))
    (g_Way : PySem.W.nsIn K mainGlobals "Way" = some (some (.ref AWay)))
    (g_Race : PySem.W.nsIn K mainGlobals "Race" = some (some (.ref ARace)))
    (g_Outcome : PySem.W.nsIn K mainGlobals "Outcome" = some (some (.ref AOutcome)))
    (a_is_integer : PySem.W.nsIn K mainGlobals "is_integer" = some (some (.ref f_is_integer)))
    (l_is_integer : K.lookup f_is_integer = some ⟨oc_is_integer, od_is_integer, .func (PySem.W.fnOf "is_integer" "is_integer" (defArgs s_is_integer) (defBody s_is_integer) (defScope s_is_integer) .none kV_is_integer dc_is_integer pm_is_integer_ an_is_integer cd_is_integer ct_is_integer), sl_is_integer⟩)
    (c_is_integer : PySem.W.codeIn K cd_is_integer "is_integer" = true)
    (k_is_integer : PySem.W.keepIn K (.ref f_is_integer) = true)
    (a_is_between : PySem.W.nsIn K mainGlobals "is_between" = some (some (.ref f_is_between)))
    (l_is_between : K.lookup f_is_between = some ⟨oc_is_between, od_is_between, .func (PySem.W.fnOf "is_between" "is_between" (defArgs s_is_between) (defBody s_is_between) (defScope s_is_between) .none kV_is_between dc_is_between pm_is_between_ an_is_between cd_is_between ct_is_between), sl_is_between⟩)
    (c_is_between : PySem.W.codeIn K cd_is_between "is_between" = true)
    (k_is_between : PySem.W.keepIn K (.ref f_is_between) = true)
    (a_is_index : PySem.W.nsIn K mainGlobals "is_index" = some (some (.ref f_is_index)))
    (l_is_index : K.lookup f_is_index = some ⟨oc_is_index, od_is_index, .func (PySem.W.fnOf "is_index" "is_index" (defArgs s_is_index) (defBody s_is_index) (defScope s_is_index) .none kV_is_index dc_is_index pm_is_index_ an_is_index cd_is_index ct_is_index), sl_is_index⟩)
    (c_is_index : PySem.W.codeIn K cd_is_index "is_index" = true)
    (k_is_index : PySem.W.keepIn K (.ref f_is_index) = true)
    (a_is_list : PySem.W.nsIn K mainGlobals "is_list" = some (some (.ref f_is_list)))
    (l_is_list : K.lookup f_is_list = some ⟨oc_is_list, od_is_list, .func (PySem.W.fnOf "is_list" "is_list" (defArgs s_is_list) (defBody s_is_list) (defScope s_is_list) .none kV_is_list dc_is_list pm_is_list_ an_is_list cd_is_list ct_is_list), sl_is_list⟩)
    (c_is_list : PySem.W.codeIn K cd_is_list "is_list" = true)
    (k_is_list : PySem.W.keepIn K (.ref f_is_list) = true)
    (a_is_list_of : PySem.W.nsIn K mainGlobals "is_list_of" = some (some (.ref f_is_list_of)))
    (l_is_list_of : K.lookup f_is_list_of = some ⟨oc_is_list_of, od_is_list_of, .func (PySem.W.fnOf "is_list_of" "is_list_of" (defArgs s_is_list_of) (defBody s_is_list_of) (defScope s_is_list_of) .none kV_is_list_of dc_is_list_of pm_is_list_of_ an_is_list_of cd_is_list_of ct_is_list_of), sl_is_list_of⟩)
    (c_is_list_of : PySem.W.codeIn K cd_is_list_of "is_list_of" = true)
    (k_is_list_of : PySem.W.keepIn K (.ref f_is_list_of) = true)
    (a_is_tuple_of : PySem.W.nsIn K mainGlobals "is_tuple_of" = some (some (.ref f_is_tuple_of)))
    (l_is_tuple_of : K.lookup f_is_tuple_of = some ⟨oc_is_tuple_of, od_is_tuple_of, .func (PySem.W.fnOf "is_tuple_of" "is_tuple_of" (defArgs s_is_tuple_of) (defBody s_is_tuple_of) (defScope s_is_tuple_of) .none kV_is_tuple_of dc_is_tuple_of pm_is_tuple_of_ an_is_tuple_of cd_is_tuple_of ct_is_tuple_of), sl_is_tuple_of⟩)
    (c_is_tuple_of : PySem.W.codeIn K cd_is_tuple_of "is_tuple_of" = true)
    (k_is_tuple_of : PySem.W.keepIn K (.ref f_is_tuple_of) = true)
    (a_are_rising_indexes : PySem.W.nsIn K mainGlobals "are_rising_indexes" = some (some (.ref f_are_rising_indexes)))
    (l_are_rising_indexes : K.lookup f_are_rising_indexes = some ⟨oc_are_rising_indexes, od_are_rising_indexes, .func (PySem.W.fnOf "are_rising_indexes" "are_rising_indexes" (defArgs s_are_rising_indexes) (defBody s_are_rising_indexes) (defScope s_are_rising_indexes) .none kV_are_rising_indexes dc_are_rising_indexes pm_are_rising_indexes_ an_are_rising_indexes cd_are_rising_indexes ct_are_rising_indexes), sl_are_rising_indexes⟩)
    (c_are_rising_indexes : PySem.W.codeIn K cd_are_rising_indexes "are_rising_indexes" = true)
    (k_are_rising_indexes : PySem.W.keepIn K (.ref f_are_rising_indexes) = true)
    (a_is_lot : PySem.W.nsIn K mainGlobals "is_lot" = some (some (.ref f_is_lot)))
    (l_is_lot : K.lookup f_is_lot = some ⟨oc_is_lot, od_is_lot, .func (PySem.W.fnOf "is_lot" "is_lot" (defArgs s_is_lot) (defBody s_is_lot) (defScope s_is_lot) .none kV_is_lot dc_is_lot pm_is_lot_ an_is_lot cd_is_lot ct_is_lot), sl_is_lot⟩)
    (c_is_lot : PySem.W.codeIn K cd_is_lot "is_lot" = true)
    (k_is_lot : PySem.W.keepIn K (.ref f_is_lot) = true)
    (a_greater : PySem.W.nsIn K mainGlobals "greater" = some (some (.ref f_greater)))
    (l_greater : K.lookup f_greater = some ⟨oc_greater, od_greater, .func (PySem.W.fnOf "greater" "greater" (defArgs s_greater) (defBody s_greater) (defScope s_greater) .none kV_greater dc_greater pm_greater_ an_greater cd_greater ct_greater), sl_greater⟩)
    (c_greater : PySem.W.codeIn K cd_greater "greater" = true)
    (k_greater : PySem.W.keepIn K (.ref f_greater) = true)
    (a_is_begin : PySem.W.nsIn K mainGlobals "is_begin" = some (some (.ref f_is_begin)))
    (l_is_begin : K.lookup f_is_begin = some ⟨oc_is_begin, od_is_begin, .func (PySem.W.fnOf "is_begin" "is_begin" (defArgs s_is_begin) (defBody s_is_begin) (defScope s_is_begin) .none kV_is_begin dc_is_begin pm_is_begin_ an_is_begin cd_is_begin ct_is_begin), sl_is_begin⟩)
    (c_is_begin : PySem.W.codeIn K cd_is_begin "is_begin" = true)
    (k_is_begin : PySem.W.keepIn K (.ref f_is_begin) = true)
    (a_are_delays : PySem.W.nsIn K mainGlobals "are_delays" = some (some (.ref f_are_delays)))
    (l_are_delays : K.lookup f_are_delays = some ⟨oc_are_delays, od_are_delays, .func (PySem.W.fnOf "are_delays" "are_delays" (defArgs s_are_delays) (defBody s_are_delays) (defScope s_are_delays) .none kV_are_delays dc_are_delays pm_are_delays_ an_are_delays cd_are_delays ct_are_delays), sl_are_delays⟩)
    (c_are_delays : PySem.W.codeIn K cd_are_delays "are_delays" = true)
    (k_are_delays : PySem.W.keepIn K (.ref f_are_delays) = true)
    (a_is_box : PySem.W.nsIn K mainGlobals "is_box" = some (some (.ref f_is_box)))
    (l_is_box : K.lookup f_is_box = some ⟨oc_is_box, od_is_box, .func (PySem.W.fnOf "is_box" "is_box" (defArgs s_is_box) (defBody s_is_box) (defScope s_is_box) .none kV_is_box dc_is_box pm_is_box_ an_is_box cd_is_box ct_is_box), sl_is_box⟩)
    (c_is_box : PySem.W.codeIn K cd_is_box "is_box" = true)
    (k_is_box : PySem.W.keepIn K (.ref f_is_box) = true)
    (a_check_ways : PySem.W.nsIn K mainGlobals "check_ways" = some (some (.ref f_check_ways)))
    (l_check_ways : K.lookup f_check_ways = some ⟨oc_check_ways, od_check_ways, .func (PySem.W.fnOf "check_ways" "check_ways" (defArgs s_check_ways) (defBody s_check_ways) (defScope s_check_ways) .none kV_check_ways dc_check_ways pm_check_ways_ an_check_ways cd_check_ways ct_check_ways), sl_check_ways⟩)
    (c_check_ways : PySem.W.codeIn K cd_check_ways "check_ways" = true)
    (k_check_ways : PySem.W.keepIn K (.ref f_check_ways) = true)
    (a_check_silent : PySem.W.nsIn K mainGlobals "check_silent" = some (some (.ref f_check_silent)))
    (l_check_silent : K.lookup f_check_silent = some ⟨oc_check_silent, od_check_silent, .func (PySem.W.fnOf "check_silent" "check_silent" (defArgs s_check_silent) (defBody s_check_silent) (defScope s_check_silent) .none kV_check_silent dc_check_silent pm_check_silent_ an_check_silent cd_check_silent ct_check_silent), sl_check_silent⟩)
    (c_check_silent : PySem.W.codeIn K cd_check_silent "check_silent" = true)
    (k_check_silent : PySem.W.keepIn K (.ref f_check_silent) = true)
    (a_check_way : PySem.W.nsIn K mainGlobals "check_way" = some (some (.ref f_check_way)))
    (l_check_way : K.lookup f_check_way = some ⟨oc_check_way, od_check_way, .func (PySem.W.fnOf "check_way" "check_way" (defArgs s_check_way) (defBody s_check_way) (defScope s_check_way) .none kV_check_way dc_check_way pm_check_way_ an_check_way cd_check_way ct_check_way), sl_check_way⟩)
    (c_check_way : PySem.W.codeIn K cd_check_way "check_way" = true)
    (k_check_way : PySem.W.keepIn K (.ref f_check_way) = true)
    (a_fits : PySem.W.nsIn K mainGlobals "fits" = some (some (.ref f_fits)))
    (l_fits : K.lookup f_fits = some ⟨oc_fits, od_fits, .func (PySem.W.fnOf "fits" "fits" (defArgs s_fits) (defBody s_fits) (defScope s_fits) .none kV_fits dc_fits pm_fits_ an_fits cd_fits ct_fits), sl_fits⟩)
    (c_fits : PySem.W.codeIn K cd_fits "fits" = true)
    (k_fits : PySem.W.keepIn K (.ref f_fits) = true)
    (a_wrong_of : PySem.W.nsIn K mainGlobals "wrong_of" = some (some (.ref f_wrong_of)))
    (l_wrong_of : K.lookup f_wrong_of = some ⟨oc_wrong_of, od_wrong_of, .func (PySem.W.fnOf "wrong_of" "wrong_of" (defArgs s_wrong_of) (defBody s_wrong_of) (defScope s_wrong_of) .none kV_wrong_of dc_wrong_of pm_wrong_of_ an_wrong_of cd_wrong_of ct_wrong_of), sl_wrong_of⟩)
    (c_wrong_of : PySem.W.codeIn K cd_wrong_of "wrong_of" = true)
    (k_wrong_of : PySem.W.keepIn K (.ref f_wrong_of) = true)
    (a_outcome_of : PySem.W.nsIn K mainGlobals "outcome_of" = some (some (.ref f_outcome_of)))
    (l_outcome_of : K.lookup f_outcome_of = some ⟨oc_outcome_of, od_outcome_of, .func (PySem.W.fnOf "outcome_of" "outcome_of" (defArgs s_outcome_of) (defBody s_outcome_of) (defScope s_outcome_of) .none kV_outcome_of dc_outcome_of pm_outcome_of_ an_outcome_of cd_outcome_of ct_outcome_of), sl_outcome_of⟩)
    (c_outcome_of : PySem.W.codeIn K cd_outcome_of "outcome_of" = true)
    (k_outcome_of : PySem.W.keepIn K (.ref f_outcome_of) = true)
    (a_check_win : PySem.W.nsIn K mainGlobals "check_win" = some (some (.ref f_check_win)))
    (l_check_win : K.lookup f_check_win = some ⟨oc_check_win, od_check_win, .func (PySem.W.fnOf "check_win" "check_win" (defArgs s_check_win) (defBody s_check_win) (defScope s_check_win) .none kV_check_win dc_check_win pm_check_win_ an_check_win cd_check_win ct_check_win), sl_check_win⟩)
    (c_check_win : PySem.W.codeIn K cd_check_win "check_win" = true)
    (k_check_win : PySem.W.keepIn K (.ref f_check_win) = true)
    (a_answer_at : PySem.W.nsIn K mainGlobals "answer_at" = some (some (.ref f_answer_at)))
    (l_answer_at : K.lookup f_answer_at = some ⟨oc_answer_at, od_answer_at, .func (PySem.W.fnOf "answer_at" "answer_at" (defArgs s_answer_at) (defBody s_answer_at) (defScope s_answer_at) .none kV_answer_at dc_answer_at pm_answer_at_ an_answer_at cd_answer_at ct_answer_at), sl_answer_at⟩)
    (c_answer_at : PySem.W.codeIn K cd_answer_at "answer_at" = true)
    (k_answer_at : PySem.W.keepIn K (.ref f_answer_at) = true)
    (a_win_run : PySem.W.nsIn K mainGlobals "win_run" = some (some (.ref f_win_run)))
    (l_win_run : K.lookup f_win_run = some ⟨oc_win_run, od_win_run, .func (PySem.W.fnOf "win_run" "win_run" (defArgs s_win_run) (defBody s_win_run) (defScope s_win_run) .none kV_win_run dc_win_run pm_win_run_ an_win_run cd_win_run ct_win_run), sl_win_run⟩)
    (c_win_run : PySem.W.codeIn K cd_win_run "win_run" = true)
    (k_win_run : PySem.W.keepIn K (.ref f_win_run) = true)
    (a_in_window : PySem.W.nsIn K mainGlobals "in_window" = some (some (.ref f_in_window)))
    (l_in_window : K.lookup f_in_window = some ⟨oc_in_window, od_in_window, .func (PySem.W.fnOf "in_window" "in_window" (defArgs s_in_window) (defBody s_in_window) (defScope s_in_window) .none kV_in_window dc_in_window pm_in_window_ an_in_window cd_in_window ct_in_window), sl_in_window⟩)
    (c_in_window : PySem.W.codeIn K cd_in_window "in_window" = true)
    (k_in_window : PySem.W.keepIn K (.ref f_in_window) = true)
    (a_win_paper : PySem.W.nsIn K mainGlobals "win_paper" = some (some (.ref f_win_paper)))
    (l_win_paper : K.lookup f_win_paper = some ⟨oc_win_paper, od_win_paper, .func (PySem.W.fnOf "win_paper" "win_paper" (defArgs s_win_paper) (defBody s_win_paper) (defScope s_win_paper) .none kV_win_paper dc_win_paper pm_win_paper_ an_win_paper cd_win_paper ct_win_paper), sl_win_paper⟩)
    (c_win_paper : PySem.W.codeIn K cd_win_paper "win_paper" = true)
    (k_win_paper : PySem.W.keepIn K (.ref f_win_paper) = true)
    (a_ways_by_end : PySem.W.nsIn K mainGlobals "ways_by_end" = some (some (.ref f_ways_by_end)))
    (l_ways_by_end : K.lookup f_ways_by_end = some ⟨oc_ways_by_end, od_ways_by_end, .func (PySem.W.fnOf "ways_by_end" "ways_by_end" (defArgs s_ways_by_end) (defBody s_ways_by_end) (defScope s_ways_by_end) .none kV_ways_by_end dc_ways_by_end pm_ways_by_end_ an_ways_by_end cd_ways_by_end ct_ways_by_end), sl_ways_by_end⟩)
    (c_ways_by_end : PySem.W.codeIn K cd_ways_by_end "ways_by_end" = true)
    (k_ways_by_end : PySem.W.keepIn K (.ref f_ways_by_end) = true)
    (a_latest_paper : PySem.W.nsIn K mainGlobals "latest_paper" = some (some (.ref f_latest_paper)))
    (l_latest_paper : K.lookup f_latest_paper = some ⟨oc_latest_paper, od_latest_paper, .func (PySem.W.fnOf "latest_paper" "latest_paper" (defArgs s_latest_paper) (defBody s_latest_paper) (defScope s_latest_paper) .none kV_latest_paper dc_latest_paper pm_latest_paper_ an_latest_paper cd_latest_paper ct_latest_paper), sl_latest_paper⟩)
    (c_latest_paper : PySem.W.codeIn K cd_latest_paper "latest_paper" = true)
    (k_latest_paper : PySem.W.keepIn K (.ref f_latest_paper) = true)
    (a_ends_at : PySem.W.nsIn K mainGlobals "ends_at" = some (some (.ref f_ends_at)))
    (l_ends_at : K.lookup f_ends_at = some ⟨oc_ends_at, od_ends_at, .func (PySem.W.fnOf "ends_at" "ends_at" (defArgs s_ends_at) (defBody s_ends_at) (defScope s_ends_at) .none kV_ends_at dc_ends_at pm_ends_at_ an_ends_at cd_ends_at ct_ends_at), sl_ends_at⟩)
    (c_ends_at : PySem.W.codeIn K cd_ends_at "ends_at" = true)
    (k_ends_at : PySem.W.keepIn K (.ref f_ends_at) = true)
    (a_shows_win : PySem.W.nsIn K mainGlobals "shows_win" = some (some (.ref f_shows_win)))
    (l_shows_win : K.lookup f_shows_win = some ⟨oc_shows_win, od_shows_win, .func (PySem.W.fnOf "shows_win" "shows_win" (defArgs s_shows_win) (defBody s_shows_win) (defScope s_shows_win) .none kV_shows_win dc_shows_win pm_shows_win_ an_shows_win cd_shows_win ct_shows_win), sl_shows_win⟩)
    (c_shows_win : PySem.W.codeIn K cd_shows_win "shows_win" = true)
    (k_shows_win : PySem.W.keepIn K (.ref f_shows_win) = true)
    (a_shows_never : PySem.W.nsIn K mainGlobals "shows_never" = some (some (.ref f_shows_never)))
    (l_shows_never : K.lookup f_shows_never = some ⟨oc_shows_never, od_shows_never, .func (PySem.W.fnOf "shows_never" "shows_never" (defArgs s_shows_never) (defBody s_shows_never) (defScope s_shows_never) .none kV_shows_never dc_shows_never pm_shows_never_ an_shows_never cd_shows_never ct_shows_never), sl_shows_never⟩)
    (c_shows_never : PySem.W.codeIn K cd_shows_never "shows_never" = true)
    (k_shows_never : PySem.W.keepIn K (.ref f_shows_never) = true)
    (a_shows_latest : PySem.W.nsIn K mainGlobals "shows_latest" = some (some (.ref f_shows_latest)))
    (l_shows_latest : K.lookup f_shows_latest = some ⟨oc_shows_latest, od_shows_latest, .func (PySem.W.fnOf "shows_latest" "shows_latest" (defArgs s_shows_latest) (defBody s_shows_latest) (defScope s_shows_latest) .none kV_shows_latest dc_shows_latest pm_shows_latest_ an_shows_latest cd_shows_latest ct_shows_latest), sl_shows_latest⟩)
    (c_shows_latest : PySem.W.codeIn K cd_shows_latest "shows_latest" = true)
    (k_shows_latest : PySem.W.keepIn K (.ref f_shows_latest) = true)
    (a_shows_unanswered : PySem.W.nsIn K mainGlobals "shows_unanswered" = some (some (.ref f_shows_unanswered)))
    (l_shows_unanswered : K.lookup f_shows_unanswered = some ⟨oc_shows_unanswered, od_shows_unanswered, .func (PySem.W.fnOf "shows_unanswered" "shows_unanswered" (defArgs s_shows_unanswered) (defBody s_shows_unanswered) (defScope s_shows_unanswered) .none kV_shows_unanswered dc_shows_unanswered pm_shows_unanswered_ an_shows_unanswered cd_shows_unanswered ct_shows_unanswered), sl_shows_unanswered⟩)
    (c_shows_unanswered : PySem.W.codeIn K cd_shows_unanswered "shows_unanswered" = true)
    (k_shows_unanswered : PySem.W.keepIn K (.ref f_shows_unanswered) = true)
    (a__law_draw : PySem.W.nsIn K mainGlobals "_law_draw" = some (some (.ref f__law_draw)))
    (l__law_draw : K.lookup f__law_draw = some ⟨oc__law_draw, od__law_draw, .func (PySem.W.fnOf "_law_draw" "_law_draw" (defArgs s__law_draw) (defBody s__law_draw) (defScope s__law_draw) .none kV__law_draw dc__law_draw pm__law_draw_ an__law_draw cd__law_draw ct__law_draw), sl__law_draw⟩)
    (c__law_draw : PySem.W.codeIn K cd__law_draw "_law_draw" = true)
    (k__law_draw : PySem.W.keepIn K (.ref f__law_draw) = true)
    (a__law_way : PySem.W.nsIn K mainGlobals "_law_way" = some (some (.ref f__law_way)))
    (l__law_way : K.lookup f__law_way = some ⟨oc__law_way, od__law_way, .func (PySem.W.fnOf "_law_way" "_law_way" (defArgs s__law_way) (defBody s__law_way) (defScope s__law_way) .none kV__law_way dc__law_way pm__law_way_ an__law_way cd__law_way ct__law_way), sl__law_way⟩)
    (c__law_way : PySem.W.codeIn K cd__law_way "_law_way" = true)
    (k__law_way : PySem.W.keepIn K (.ref f__law_way) = true)
    (a__law_ways : PySem.W.nsIn K mainGlobals "_law_ways" = some (some (.ref f__law_ways)))
    (l__law_ways : K.lookup f__law_ways = some ⟨oc__law_ways, od__law_ways, .func (PySem.W.fnOf "_law_ways" "_law_ways" (defArgs s__law_ways) (defBody s__law_ways) (defScope s__law_ways) .none kV__law_ways dc__law_ways pm__law_ways_ an__law_ways cd__law_ways ct__law_ways), sl__law_ways⟩)
    (c__law_ways : PySem.W.codeIn K cd__law_ways "_law_ways" = true)
    (k__law_ways : PySem.W.keepIn K (.ref f__law_ways) = true)
    (a__law_made : PySem.W.nsIn K mainGlobals "_law_made" = some (some (.ref f__law_made)))
    (l__law_made : K.lookup f__law_made = some ⟨oc__law_made, od__law_made, .func (PySem.W.fnOf "_law_made" "_law_made" (defArgs s__law_made) (defBody s__law_made) (defScope s__law_made) .none kV__law_made dc__law_made pm__law_made_ an__law_made cd__law_made ct__law_made), sl__law_made⟩)
    (c__law_made : PySem.W.codeIn K cd__law_made "_law_made" = true)
    (k__law_made : PySem.W.keepIn K (.ref f__law_made) = true)
    (a__law_entries : PySem.W.nsIn K mainGlobals "_law_entries" = some (some (.ref f__law_entries)))
    (l__law_entries : K.lookup f__law_entries = some ⟨oc__law_entries, od__law_entries, .func (PySem.W.fnOf "_law_entries" "_law_entries" (defArgs s__law_entries) (defBody s__law_entries) (defScope s__law_entries) .none kV__law_entries dc__law_entries pm__law_entries_ an__law_entries cd__law_entries ct__law_entries), sl__law_entries⟩)
    (c__law_entries : PySem.W.codeIn K cd__law_entries "_law_entries" = true)
    (k__law_entries : PySem.W.keepIn K (.ref f__law_entries) = true)
    (a__law_quiet : PySem.W.nsIn K mainGlobals "_law_quiet" = some (some (.ref f__law_quiet)))
    (l__law_quiet : K.lookup f__law_quiet = some ⟨oc__law_quiet, od__law_quiet, .func (PySem.W.fnOf "_law_quiet" "_law_quiet" (defArgs s__law_quiet) (defBody s__law_quiet) (defScope s__law_quiet) .none kV__law_quiet dc__law_quiet pm__law_quiet_ an__law_quiet cd__law_quiet ct__law_quiet), sl__law_quiet⟩)
    (c__law_quiet : PySem.W.codeIn K cd__law_quiet "_law_quiet" = true)
    (k__law_quiet : PySem.W.keepIn K (.ref f__law_quiet) = true)
    (a__law_runs : PySem.W.nsIn K mainGlobals "_law_runs" = some (some (.ref f__law_runs)))
    (l__law_runs : K.lookup f__law_runs = some ⟨oc__law_runs, od__law_runs, .func (PySem.W.fnOf "_law_runs" "_law_runs" (defArgs s__law_runs) (defBody s__law_runs) (defScope s__law_runs) .none kV__law_runs dc__law_runs pm__law_runs_ an__law_runs cd__law_runs ct__law_runs), sl__law_runs⟩)
    (c__law_runs : PySem.W.codeIn K cd__law_runs "_law_runs" = true)
    (k__law_runs : PySem.W.keepIn K (.ref f__law_runs) = true)
    (a__law_outcome : PySem.W.nsIn K mainGlobals "_law_outcome" = some (some (.ref f__law_outcome)))
    (l__law_outcome : K.lookup f__law_outcome = some ⟨oc__law_outcome, od__law_outcome, .func (PySem.W.fnOf "_law_outcome" "_law_outcome" (defArgs s__law_outcome) (defBody s__law_outcome) (defScope s__law_outcome) .none kV__law_outcome dc__law_outcome pm__law_outcome_ an__law_outcome cd__law_outcome ct__law_outcome), sl__law_outcome⟩)
    (c__law_outcome : PySem.W.codeIn K cd__law_outcome "_law_outcome" = true)
    (k__law_outcome : PySem.W.keepIn K (.ref f__law_outcome) = true)
    (a__law_hurried : PySem.W.nsIn K mainGlobals "_law_hurried" = some (some (.ref f__law_hurried)))
    (l__law_hurried : K.lookup f__law_hurried = some ⟨oc__law_hurried, od__law_hurried, .func (PySem.W.fnOf "_law_hurried" "_law_hurried" (defArgs s__law_hurried) (defBody s__law_hurried) (defScope s__law_hurried) .none kV__law_hurried dc__law_hurried pm__law_hurried_ an__law_hurried cd__law_hurried ct__law_hurried), sl__law_hurried⟩)
    (c__law_hurried : PySem.W.codeIn K cd__law_hurried "_law_hurried" = true)
    (k__law_hurried : PySem.W.keepIn K (.ref f__law_hurried) = true)
    (a__law_is_lot : PySem.W.nsIn K mainGlobals "_law_is_lot" = some (some (.ref f__law_is_lot)))
    (l__law_is_lot : K.lookup f__law_is_lot = some ⟨oc__law_is_lot, od__law_is_lot, .func (PySem.W.fnOf "_law_is_lot" "_law_is_lot" (defArgs s__law_is_lot) (defBody s__law_is_lot) (defScope s__law_is_lot) .none kV__law_is_lot dc__law_is_lot pm__law_is_lot_ an__law_is_lot cd__law_is_lot ct__law_is_lot), sl__law_is_lot⟩)
    (c__law_is_lot : PySem.W.codeIn K cd__law_is_lot "_law_is_lot" = true)
    (k__law_is_lot : PySem.W.keepIn K (.ref f__law_is_lot) = true)
    (a__law_never : PySem.W.nsIn K mainGlobals "_law_never" = some (some (.ref f__law_never)))
    (l__law_never : K.lookup f__law_never = some ⟨oc__law_never, od__law_never, .func (PySem.W.fnOf "_law_never" "_law_never" (defArgs s__law_never) (defBody s__law_never) (defScope s__law_never) .none kV__law_never dc__law_never pm__law_never_ an__law_never cd__law_never ct__law_never), sl__law_never⟩)
    (c__law_never : PySem.W.codeIn K cd__law_never "_law_never" = true)
    (k__law_never : PySem.W.keepIn K (.ref f__law_never) = true)
    (a__law_latest : PySem.W.nsIn K mainGlobals "_law_latest" = some (some (.ref f__law_latest)))
    (l__law_latest : K.lookup f__law_latest = some ⟨oc__law_latest, od__law_latest, .func (PySem.W.fnOf "_law_latest" "_law_latest" (defArgs s__law_latest) (defBody s__law_latest) (defScope s__law_latest) .none kV__law_latest dc__law_latest pm__law_latest_ an__law_latest cd__law_latest ct__law_latest), sl__law_latest⟩)
    (c__law_latest : PySem.W.codeIn K cd__law_latest "_law_latest" = true)
    (k__law_latest : PySem.W.keepIn K (.ref f__law_latest) = true)
    (a__law_run_of : PySem.W.nsIn K mainGlobals "_law_run_of" = some (some (.ref f__law_run_of)))
    (l__law_run_of : K.lookup f__law_run_of = some ⟨oc__law_run_of, od__law_run_of, .func (PySem.W.fnOf "_law_run_of" "_law_run_of" (defArgs s__law_run_of) (defBody s__law_run_of) (defScope s__law_run_of) .none kV__law_run_of dc__law_run_of pm__law_run_of_ an__law_run_of cd__law_run_of ct__law_run_of), sl__law_run_of⟩)
    (c__law_run_of : PySem.W.codeIn K cd__law_run_of "_law_run_of" = true)
    (k__law_run_of : PySem.W.keepIn K (.ref f__law_run_of) = true)
    (a__law_lot : PySem.W.nsIn K mainGlobals "_law_lot" = some (some (.ref f__law_lot)))
    (l__law_lot : K.lookup f__law_lot = some ⟨oc__law_lot, od__law_lot, .func (PySem.W.fnOf "_law_lot" "_law_lot" (defArgs s__law_lot) (defBody s__law_lot) (defScope s__law_lot) .none kV__law_lot dc__law_lot pm__law_lot_ an__law_lot cd__law_lot ct__law_lot), sl__law_lot⟩)
    (c__law_lot : PySem.W.codeIn K cd__law_lot "_law_lot" = true)
    (k__law_lot : PySem.W.keepIn K (.ref f__law_lot) = true)
    (a__law_run : PySem.W.nsIn K mainGlobals "_law_run" = some (some (.ref f__law_run)))
    (l__law_run : K.lookup f__law_run = some ⟨oc__law_run, od__law_run, .func (PySem.W.fnOf "_law_run" "_law_run" (defArgs s__law_run) (defBody s__law_run) (defScope s__law_run) .none kV__law_run dc__law_run pm__law_run_ an__law_run cd__law_run ct__law_run), sl__law_run⟩)
    (c__law_run : PySem.W.codeIn K cd__law_run "_law_run" = true)
    (k__law_run : PySem.W.keepIn K (.ref f__law_run) = true)
    (a__law_moment : PySem.W.nsIn K mainGlobals "_law_moment" = some (some (.ref f__law_moment)))
    (l__law_moment : K.lookup f__law_moment = some ⟨oc__law_moment, od__law_moment, .func (PySem.W.fnOf "_law_moment" "_law_moment" (defArgs s__law_moment) (defBody s__law_moment) (defScope s__law_moment) .none kV__law_moment dc__law_moment pm__law_moment_ an__law_moment cd__law_moment ct__law_moment), sl__law_moment⟩)
    (c__law_moment : PySem.W.codeIn K cd__law_moment "_law_moment" = true)
    (k__law_moment : PySem.W.keepIn K (.ref f__law_moment) = true)
    (a__law_shown : PySem.W.nsIn K mainGlobals "_law_shown" = some (some (.ref f__law_shown)))
    (l__law_shown : K.lookup f__law_shown = some ⟨oc__law_shown, od__law_shown, .func (PySem.W.fnOf "_law_shown" "_law_shown" (defArgs s__law_shown) (defBody s__law_shown) (defScope s__law_shown) .none kV__law_shown dc__law_shown pm__law_shown_ an__law_shown cd__law_shown ct__law_shown), sl__law_shown⟩)
    (c__law_shown : PySem.W.codeIn K cd__law_shown "_law_shown" = true)
    (k__law_shown : PySem.W.keepIn K (.ref f__law_shown) = true)
    (a__law_told_right : PySem.W.nsIn K mainGlobals "_law_told_right" = some (some (.ref f__law_told_right)))
    (l__law_told_right : K.lookup f__law_told_right = some ⟨oc__law_told_right, od__law_told_right, .func (PySem.W.fnOf "_law_told_right" "_law_told_right" (defArgs s__law_told_right) (defBody s__law_told_right) (defScope s__law_told_right) .none kV__law_told_right dc__law_told_right pm__law_told_right_ an__law_told_right cd__law_told_right ct__law_told_right), sl__law_told_right⟩)
    (c__law_told_right : PySem.W.codeIn K cd__law_told_right "_law_told_right" = true)
    (k__law_told_right : PySem.W.keepIn K (.ref f__law_told_right) = true)
    (a__law_judged : PySem.W.nsIn K mainGlobals "_law_judged" = some (some (.ref f__law_judged)))
    (l__law_judged : K.lookup f__law_judged = some ⟨oc__law_judged, od__law_judged, .func (PySem.W.fnOf "_law_judged" "_law_judged" (defArgs s__law_judged) (defBody s__law_judged) (defScope s__law_judged) .none kV__law_judged dc__law_judged pm__law_judged_ an__law_judged cd__law_judged ct__law_judged), sl__law_judged⟩)
    (c__law_judged : PySem.W.codeIn K cd__law_judged "_law_judged" = true)
    (k__law_judged : PySem.W.keepIn K (.ref f__law_judged) = true)
    (a_law : PySem.W.nsIn K mainGlobals "law" = some (some (.ref f_law)))
    (l_law : K.lookup f_law = some ⟨oc_law, od_law, .func (PySem.W.fnOf "law" "law" (defArgs s_law) (defBody s_law) (defScope s_law) .none kV_law dc_law pm_law_ an_law cd_law ct_law), sl_law⟩)
    (c_law : PySem.W.codeIn K cd_law "law" = true)
    (k_law : PySem.W.keepIn K (.ref f_law) = true)
    (a_BadPart_init : PySem.W.findIn K (.ref ABadPart) "__init__" = some (some (.ref f_BadPart_init)))
    (i_BadPart_init : PySem.W.typeIn K (.ref f_BadPart_init) = some (.type "function"))
    (l_BadPart_init : K.lookup f_BadPart_init = some ⟨oc_BadPart_init, od_BadPart_init, .func (PySem.W.fnOf "__init__" "BadPart.__init__" (defArgs s_BadPart_init) (defBody s_BadPart_init) (defScope s_BadPart_init) .none kV_BadPart_init dc_BadPart_init pm_BadPart_init_ an_BadPart_init cd_BadPart_init ct_BadPart_init), sl_BadPart_init⟩)
    (c_BadPart_init : PySem.W.codeIn K cd_BadPart_init "BadPart.__init__" = true)
    (k_BadPart_init : PySem.W.keepIn K (.ref f_BadPart_init) = true)
    (a_BadBox_init : PySem.W.findIn K (.ref ABadBox) "__init__" = some (some (.ref f_BadBox_init)))
    (i_BadBox_init : PySem.W.typeIn K (.ref f_BadBox_init) = some (.type "function"))
    (l_BadBox_init : K.lookup f_BadBox_init = some ⟨oc_BadBox_init, od_BadBox_init, .func (PySem.W.fnOf "__init__" "BadBox.__init__" (defArgs s_BadBox_init) (defBody s_BadBox_init) (defScope s_BadBox_init) .none kV_BadBox_init dc_BadBox_init pm_BadBox_init_ an_BadBox_init cd_BadBox_init ct_BadBox_init), sl_BadBox_init⟩)
    (c_BadBox_init : PySem.W.codeIn K cd_BadBox_init "BadBox.__init__" = true)
    (k_BadBox_init : PySem.W.keepIn K (.ref f_BadBox_init) = true)
    (a_NoWay_init : PySem.W.findIn K (.ref ANoWay) "__init__" = some (some (.ref f_NoWay_init)))
    (i_NoWay_init : PySem.W.typeIn K (.ref f_NoWay_init) = some (.type "function"))
    (l_NoWay_init : K.lookup f_NoWay_init = some ⟨oc_NoWay_init, od_NoWay_init, .func (PySem.W.fnOf "__init__" "NoWay.__init__" (defArgs s_NoWay_init) (defBody s_NoWay_init) (defScope s_NoWay_init) .none kV_NoWay_init dc_NoWay_init pm_NoWay_init_ an_NoWay_init cd_NoWay_init ct_NoWay_init), sl_NoWay_init⟩)
    (c_NoWay_init : PySem.W.codeIn K cd_NoWay_init "NoWay.__init__" = true)
    (k_NoWay_init : PySem.W.keepIn K (.ref f_NoWay_init) = true)
    (a_CannotWin_init : PySem.W.findIn K (.ref ACannotWin) "__init__" = some (some (.ref f_CannotWin_init)))
    (i_CannotWin_init : PySem.W.typeIn K (.ref f_CannotWin_init) = some (.type "function"))
    (l_CannotWin_init : K.lookup f_CannotWin_init = some ⟨oc_CannotWin_init, od_CannotWin_init, .func (PySem.W.fnOf "__init__" "CannotWin.__init__" (defArgs s_CannotWin_init) (defBody s_CannotWin_init) (defScope s_CannotWin_init) .none kV_CannotWin_init dc_CannotWin_init pm_CannotWin_init_ an_CannotWin_init cd_CannotWin_init ct_CannotWin_init), sl_CannotWin_init⟩)
    (c_CannotWin_init : PySem.W.codeIn K cd_CannotWin_init "CannotWin.__init__" = true)
    (k_CannotWin_init : PySem.W.keepIn K (.ref f_CannotWin_init) = true)
    (a_Way_init : PySem.W.findIn K (.ref AWay) "__init__" = some (some (.ref f_Way_init)))
    (i_Way_init : PySem.W.isFn K (.ref f_Way_init) = true)
    (l_Way_init : K.lookup f_Way_init = some ⟨oc_Way_init, od_Way_init, .func (PySem.W.fnOf "__init__" "Way.__init__" (defArgs s_Way_init) (defBody s_Way_init) (defScope s_Way_init) (.ref Td) kV_Way_init dc_Way_init pm_Way_init_ an_Way_init cd_Way_init ct_Way_init), sl_Way_init⟩)
    (c_Way_init : PySem.W.codeIn K cd_Way_init "Way.__init__" = true)
    (k_Way_init : PySem.W.keepIn K (.ref f_Way_init) = true)
    (a_Way_window : PySem.W.findIn K (.ref AWay) "window" = some (some (.ref f_Way_window)))
    (i_Way_window : PySem.W.isFn K (.ref f_Way_window) = true)
    (l_Way_window : K.lookup f_Way_window = some ⟨oc_Way_window, od_Way_window, .func (PySem.W.fnOf "window" "Way.window" (defArgs s_Way_window) (defBody s_Way_window) (defScope s_Way_window) .none kV_Way_window dc_Way_window pm_Way_window_ an_Way_window cd_Way_window ct_Way_window), sl_Way_window⟩)
    (c_Way_window : PySem.W.codeIn K cd_Way_window "Way.window" = true)
    (k_Way_window : PySem.W.keepIn K (.ref f_Way_window) = true)
    (a_Race_init : PySem.W.findIn K (.ref ARace) "__init__" = some (some (.ref f_Race_init)))
    (i_Race_init : PySem.W.isFn K (.ref f_Race_init) = true)
    (l_Race_init : K.lookup f_Race_init = some ⟨oc_Race_init, od_Race_init, .func (PySem.W.fnOf "__init__" "Race.__init__" (defArgs s_Race_init) (defBody s_Race_init) (defScope s_Race_init) .none kV_Race_init dc_Race_init pm_Race_init_ an_Race_init cd_Race_init ct_Race_init), sl_Race_init⟩)
    (c_Race_init : PySem.W.codeIn K cd_Race_init "Race.__init__" = true)
    (k_Race_init : PySem.W.keepIn K (.ref f_Race_init) = true)
    (a_Race_planned : PySem.W.findIn K (.ref ARace) "planned" = some (some (.ref f_Race_planned)))
    (i_Race_planned : PySem.W.isFn K (.ref f_Race_planned) = true)
    (l_Race_planned : K.lookup f_Race_planned = some ⟨oc_Race_planned, od_Race_planned, .func (PySem.W.fnOf "planned" "Race.planned" (defArgs s_Race_planned) (defBody s_Race_planned) (defScope s_Race_planned) .none kV_Race_planned dc_Race_planned pm_Race_planned_ an_Race_planned cd_Race_planned ct_Race_planned), sl_Race_planned⟩)
    (c_Race_planned : PySem.W.codeIn K cd_Race_planned "Race.planned" = true)
    (k_Race_planned : PySem.W.keepIn K (.ref f_Race_planned) = true)
    (a_Race_hurried : PySem.W.findIn K (.ref ARace) "hurried" = some (some (.ref f_Race_hurried)))
    (i_Race_hurried : PySem.W.isFn K (.ref f_Race_hurried) = true)
    (l_Race_hurried : K.lookup f_Race_hurried = some ⟨oc_Race_hurried, od_Race_hurried, .func (PySem.W.fnOf "hurried" "Race.hurried" (defArgs s_Race_hurried) (defBody s_Race_hurried) (defScope s_Race_hurried) .none kV_Race_hurried dc_Race_hurried pm_Race_hurried_ an_Race_hurried cd_Race_hurried ct_Race_hurried), sl_Race_hurried⟩)
    (c_Race_hurried : PySem.W.codeIn K cd_Race_hurried "Race.hurried" = true)
    (k_Race_hurried : PySem.W.keepIn K (.ref f_Race_hurried) = true)
    (a_Race_can_win : PySem.W.findIn K (.ref ARace) "can_win" = some (some (.ref f_Race_can_win)))
    (i_Race_can_win : PySem.W.isFn K (.ref f_Race_can_win) = true)
    (l_Race_can_win : K.lookup f_Race_can_win = some ⟨oc_Race_can_win, od_Race_can_win, .func (PySem.W.fnOf "can_win" "Race.can_win" (defArgs s_Race_can_win) (defBody s_Race_can_win) (defScope s_Race_can_win) .none kV_Race_can_win dc_Race_can_win pm_Race_can_win_ an_Race_can_win cd_Race_can_win ct_Race_can_win), sl_Race_can_win⟩)
    (c_Race_can_win : PySem.W.codeIn K cd_Race_can_win "Race.can_win" = true)
    (k_Race_can_win : PySem.W.keepIn K (.ref f_Race_can_win) = true)
    (a_Race_latest : PySem.W.findIn K (.ref ARace) "latest" = some (some (.ref f_Race_latest)))
    (i_Race_latest : PySem.W.isFn K (.ref f_Race_latest) = true)
    (l_Race_latest : K.lookup f_Race_latest = some ⟨oc_Race_latest, od_Race_latest, .func (PySem.W.fnOf "latest" "Race.latest" (defArgs s_Race_latest) (defBody s_Race_latest) (defScope s_Race_latest) .none kV_Race_latest dc_Race_latest pm_Race_latest_ an_Race_latest cd_Race_latest ct_Race_latest), sl_Race_latest⟩)
    (c_Race_latest : PySem.W.codeIn K cd_Race_latest "Race.latest" = true)
    (k_Race_latest : PySem.W.keepIn K (.ref f_Race_latest) = true)
    (a_Outcome_init : PySem.W.findIn K (.ref AOutcome) "__init__" = some (some (.ref f_Outcome_init)))
    (i_Outcome_init : PySem.W.isFn K (.ref f_Outcome_init) = true)
    (l_Outcome_init : K.lookup f_Outcome_init = some ⟨oc_Outcome_init, od_Outcome_init, .func (PySem.W.fnOf "__init__" "Outcome.__init__" (defArgs s_Outcome_init) (defBody s_Outcome_init) (defScope s_Outcome_init) .none kV_Outcome_init dc_Outcome_init pm_Outcome_init_ an_Outcome_init cd_Outcome_init ct_Outcome_init), sl_Outcome_init⟩)
    (c_Outcome_init : PySem.W.codeIn K cd_Outcome_init "Outcome.__init__" = true)
    (k_Outcome_init : PySem.W.keepIn K (.ref f_Outcome_init) = true)
    (d_T : K.lookup Td = some ⟨dcl, ddt, .seq #[.ref AT0] dn, dsl⟩)
    (d_0 : K.lookup AT0 = some ⟨.type "tuple", edt, .seq #[] en, esl⟩)
    (n_isinstance : PySem.W.nsIn K mainGlobals "isinstance" = some none)
    (n_int : PySem.W.nsIn K mainGlobals "int" = some none)
    (n_bool : PySem.W.nsIn K mainGlobals "bool" = some none)
    (n_list : PySem.W.nsIn K mainGlobals "list" = some none)
    (n_tuple : PySem.W.nsIn K mainGlobals "tuple" = some none)
    (n_len : PySem.W.nsIn K mainGlobals "len" = some none)
    (n_range : PySem.W.nsIn K mainGlobals "range" = some none)
    (n_max : PySem.W.nsIn K mainGlobals "max" = some none)
    (n_sum : PySem.W.nsIn K mainGlobals "sum" = some none)
    (n_zip : PySem.W.nsIn K mainGlobals "zip" = some none)
    (n_set : PySem.W.nsIn K mainGlobals "set" = some none)
    (n_enumerate : PySem.W.nsIn K mainGlobals "enumerate" = some none)
    (n_all : PySem.W.nsIn K mainGlobals "all" = some none)
    (n_sorted : PySem.W.nsIn K mainGlobals "sorted" = some none)
    (v_MOST_BEGIN : PySem.W.nsIn K mainGlobals "MOST_BEGIN" = some (some (.int 1000 t_MOST_BEGIN)))
    (v_MOST_DELAY : PySem.W.nsIn K mainGlobals "MOST_DELAY" = some (some (.int 50 t_MOST_DELAY)))
    (v_MOST_BOXES : PySem.W.nsIn K mainGlobals "MOST_BOXES" = some (some (.int 3 t_MOST_BOXES)))
    (v_MOST_KEEP : PySem.W.nsIn K mainGlobals "MOST_KEEP" = some (some (.int 10000 t_MOST_KEEP)))
    (v_MOST_WAYS : PySem.W.nsIn K mainGlobals "MOST_WAYS" = some (some (.int 4 t_MOST_WAYS)))
    (v_MOST_SILENT : PySem.W.nsIn K mainGlobals "MOST_SILENT" = some (some (.int 3 t_MOST_SILENT)))
    (s_hn : PySem.W.specialIn K (.builtin "object.__class__") "__get__" = some (some (.builtin "getset_descriptor.__get__")))
    (s_tk : PySem.W.takesIn K (.builtin "object.__class__") = some true)
    (pg_Way : PySem.W.plainGet K AWay Str.empty = true)
    (hd_Way : PySem.W.hasDictIn K AWay = true)
    (po_Way : PySem.W.plainOver K AWay = true)
    (sa_Way : PySem.W.findIn K (.ref AWay) "__setattr__" = some (some (.builtin "object.__setattr__")))
    (ha_Way : PySem.W.findIn K (.ref AWay) "__class__" = some (some (.builtin "object.__class__")))
    (hm_Way : PySem.W.mroIn K AWay (.type "object") = some true)
    (ne_Way : PySem.W.findIn K (.ref AWay) "__ne__" = some (some (.builtin "object.__ne__")))
    (is_Way : PySem.W.isClsIn K AWay = true)
    (ty_Way : PySem.W.typeIn K (.ref AWay) = some (.type "type"))
    (tup_Way : PySem.W.subIn K (.ref AWay) (.type "tuple") = some false)
    (lst_Way : PySem.W.subIn K (.ref AWay) (.type "list") = some false)
    (int_Way : PySem.W.subIn K (.ref AWay) (.type "int") = some false)
    (str_Way : PySem.W.subIn K (.ref AWay) (.type "str") = some false)
    (mk_Way : PySem.W.makesIn K AWay = true)
    (kc_Way : PySem.W.keepIn K (.ref AWay) = true)
    (na_Way_begin : PySem.W.findIn K (.ref AWay) "begin" = some none)
    (na_Way_least : PySem.W.findIn K (.ref AWay) "least" = some none)
    (na_Way_most : PySem.W.findIn K (.ref AWay) "most" = some none)
    (na_Way_boxes : PySem.W.findIn K (.ref AWay) "boxes" = some none)
    (pg_Race : PySem.W.plainGet K ARace Str.empty = true)
    (hd_Race : PySem.W.hasDictIn K ARace = true)
    (po_Race : PySem.W.plainOver K ARace = true)
    (sa_Race : PySem.W.findIn K (.ref ARace) "__setattr__" = some (some (.builtin "object.__setattr__")))
    (ha_Race : PySem.W.findIn K (.ref ARace) "__class__" = some (some (.builtin "object.__class__")))
    (hm_Race : PySem.W.mroIn K ARace (.type "object") = some true)
    (ne_Race : PySem.W.findIn K (.ref ARace) "__ne__" = some (some (.builtin "object.__ne__")))
    (is_Race : PySem.W.isClsIn K ARace = true)
    (ty_Race : PySem.W.typeIn K (.ref ARace) = some (.type "type"))
    (tup_Race : PySem.W.subIn K (.ref ARace) (.type "tuple") = some false)
    (lst_Race : PySem.W.subIn K (.ref ARace) (.type "list") = some false)
    (int_Race : PySem.W.subIn K (.ref ARace) (.type "int") = some false)
    (str_Race : PySem.W.subIn K (.ref ARace) (.type "str") = some false)
    (mk_Race : PySem.W.makesIn K ARace = true)
    (kc_Race : PySem.W.keepIn K (.ref ARace) = true)
    (na_Race_ways : PySem.W.findIn K (.ref ARace) "ways" = some none)
    (na_Race_silent : PySem.W.findIn K (.ref ARace) "silent" = some none)
    (pg_Outcome : PySem.W.plainGet K AOutcome Str.empty = true)
    (hd_Outcome : PySem.W.hasDictIn K AOutcome = true)
    (po_Outcome : PySem.W.plainOver K AOutcome = true)
    (sa_Outcome : PySem.W.findIn K (.ref AOutcome) "__setattr__" = some (some (.builtin "object.__setattr__")))
    (ha_Outcome : PySem.W.findIn K (.ref AOutcome) "__class__" = some (some (.builtin "object.__class__")))
    (hm_Outcome : PySem.W.mroIn K AOutcome (.type "object") = some true)
    (ne_Outcome : PySem.W.findIn K (.ref AOutcome) "__ne__" = some (some (.builtin "object.__ne__")))
    (is_Outcome : PySem.W.isClsIn K AOutcome = true)
    (ty_Outcome : PySem.W.typeIn K (.ref AOutcome) = some (.type "type"))
    (tup_Outcome : PySem.W.subIn K (.ref AOutcome) (.type "tuple") = some false)
    (lst_Outcome : PySem.W.subIn K (.ref AOutcome) (.type "list") = some false)
    (int_Outcome : PySem.W.subIn K (.ref AOutcome) (.type "int") = some false)
    (str_Outcome : PySem.W.subIn K (.ref AOutcome) (.type "str") = some false)
    (mk_Outcome : PySem.W.makesIn K AOutcome = true)
    (kc_Outcome : PySem.W.keepIn K (.ref AOutcome) = true)
    (na_Outcome_winner : PySem.W.findIn K (.ref AOutcome) "winner" = some none)
    (na_Outcome_moment : PySem.W.findIn K (.ref AOutcome) "moment" = some none)
    (na_Outcome_sent : PySem.W.findIn K (.ref AOutcome) "sent" = some none)
    (xBadPart_L : K.lookup ABadPart = some (excClassObj xBadPart_nm xBadPart_q ABadPart xBadPart_N xBadPart_bs [.ref AWholeError, .type "ValueError", .type "Exception", .type "BaseException", .type "object"] true xBadPart_sn xBadPart_sub xBadPart_ab xBadPart_col xBadPart_dd xBadPart_m0 xBadPart_m1 xBadPart_m2 xBadPart_m3 xBadPart_m5 "ValueError.__new__"))
    (xBadPart_sa : PySem.W.findIn K (.ref ABadPart) "__setattr__" = some (some (.builtin "object.__setattr__")))
    (xBadPart_ex : PySem.W.subIn K (.ref ABadPart) (.type "BaseException") = some true)
    (xBadPart_ty : PySem.W.typeIn K (.ref ABadPart) = some (.type "type"))
    (xBadPart_kC : PySem.W.keepIn K (.ref ABadPart) = true)
    (xBadPart_noA : PySem.W.findIn K (.ref ABadPart) "part" = some none)
    (xBadPart_hg : PySem.W.findIn K (.ref ABadPart) "__getattribute__" = some (some (.builtin "BaseException.__getattribute__")))
    (xBadPart_hk : PySem.W.findIn K (.ref ABadPart) "__getattr__" = some none)
    (xBadPart_hd : PySem.W.hasDictIn K ABadPart = true)
    (xBadPart_ha : PySem.W.findIn K (.ref ABadPart) "__class__" = some (some (.builtin "object.__class__")))
    (xBadPart_hm : PySem.W.mroIn K ABadPart (.type "object") = some true)
    (xBadPart_is : PySem.W.isClsIn K ABadPart = true)
    (xBadPart_ss : PySem.W.subIn K (.ref ABadPart) (.ref ABadPart) = some true)
    (xBadPart_w : PySem.W.subIn K (.ref ABadPart) (.ref AWholeError) = some true)
    (xBadBox_L : K.lookup ABadBox = some (excClassObj xBadBox_nm xBadBox_q ABadBox xBadBox_N xBadBox_bs [.ref AWholeError, .type "ValueError", .type "Exception", .type "BaseException", .type "object"] true xBadBox_sn xBadBox_sub xBadBox_ab xBadBox_col xBadBox_dd xBadBox_m0 xBadBox_m1 xBadBox_m2 xBadBox_m3 xBadBox_m5 "ValueError.__new__"))
    (xBadBox_sa : PySem.W.findIn K (.ref ABadBox) "__setattr__" = some (some (.builtin "object.__setattr__")))
    (xBadBox_ex : PySem.W.subIn K (.ref ABadBox) (.type "BaseException") = some true)
    (xBadBox_ty : PySem.W.typeIn K (.ref ABadBox) = some (.type "type"))
    (xBadBox_kC : PySem.W.keepIn K (.ref ABadBox) = true)
    (xBadBox_noA : PySem.W.findIn K (.ref ABadBox) "index" = some none)
    (xBadBox_hg : PySem.W.findIn K (.ref ABadBox) "__getattribute__" = some (some (.builtin "BaseException.__getattribute__")))
    (xBadBox_hk : PySem.W.findIn K (.ref ABadBox) "__getattr__" = some none)
    (xBadBox_hd : PySem.W.hasDictIn K ABadBox = true)
    (xBadBox_ha : PySem.W.findIn K (.ref ABadBox) "__class__" = some (some (.builtin "object.__class__")))
    (xBadBox_hm : PySem.W.mroIn K ABadBox (.type "object") = some true)
    (xBadBox_is : PySem.W.isClsIn K ABadBox = true)
    (xBadBox_ss : PySem.W.subIn K (.ref ABadBox) (.ref ABadBox) = some true)
    (xBadBox_w : PySem.W.subIn K (.ref ABadBox) (.ref AWholeError) = some true)
    (xNoWay_L : K.lookup ANoWay = some (excClassObj xNoWay_nm xNoWay_q ANoWay xNoWay_N xNoWay_bs [.ref AWholeError, .type "ValueError", .type "Exception", .type "BaseException", .type "object"] true xNoWay_sn xNoWay_sub xNoWay_ab xNoWay_col xNoWay_dd xNoWay_m0 xNoWay_m1 xNoWay_m2 xNoWay_m3 xNoWay_m5 "ValueError.__new__"))
    (xNoWay_sa : PySem.W.findIn K (.ref ANoWay) "__setattr__" = some (some (.builtin "object.__setattr__")))
    (xNoWay_ex : PySem.W.subIn K (.ref ANoWay) (.type "BaseException") = some true)
    (xNoWay_ty : PySem.W.typeIn K (.ref ANoWay) = some (.type "type"))
    (xNoWay_kC : PySem.W.keepIn K (.ref ANoWay) = true)
    (xNoWay_noA : PySem.W.findIn K (.ref ANoWay) "way" = some none)
    (xNoWay_hg : PySem.W.findIn K (.ref ANoWay) "__getattribute__" = some (some (.builtin "BaseException.__getattribute__")))
    (xNoWay_hk : PySem.W.findIn K (.ref ANoWay) "__getattr__" = some none)
    (xNoWay_hd : PySem.W.hasDictIn K ANoWay = true)
    (xNoWay_ha : PySem.W.findIn K (.ref ANoWay) "__class__" = some (some (.builtin "object.__class__")))
    (xNoWay_hm : PySem.W.mroIn K ANoWay (.type "object") = some true)
    (xNoWay_is : PySem.W.isClsIn K ANoWay = true)
    (xNoWay_ss : PySem.W.subIn K (.ref ANoWay) (.ref ANoWay) = some true)
    (xNoWay_w : PySem.W.subIn K (.ref ANoWay) (.ref AWholeError) = some true)
    (xCannotWin_L : K.lookup ACannotWin = some (excClassObj xCannotWin_nm xCannotWin_q ACannotWin xCannotWin_N xCannotWin_bs [.ref AWholeError, .type "ValueError", .type "Exception", .type "BaseException", .type "object"] true xCannotWin_sn xCannotWin_sub xCannotWin_ab xCannotWin_col xCannotWin_dd xCannotWin_m0 xCannotWin_m1 xCannotWin_m2 xCannotWin_m3 xCannotWin_m5 "ValueError.__new__"))
    (xCannotWin_sa : PySem.W.findIn K (.ref ACannotWin) "__setattr__" = some (some (.builtin "object.__setattr__")))
    (xCannotWin_ex : PySem.W.subIn K (.ref ACannotWin) (.type "BaseException") = some true)
    (xCannotWin_ty : PySem.W.typeIn K (.ref ACannotWin) = some (.type "type"))
    (xCannotWin_kC : PySem.W.keepIn K (.ref ACannotWin) = true)
    (xCannotWin_noA : PySem.W.findIn K (.ref ACannotWin) "way" = some none)
    (xCannotWin_hg : PySem.W.findIn K (.ref ACannotWin) "__getattribute__" = some (some (.builtin "BaseException.__getattribute__")))
    (xCannotWin_hk : PySem.W.findIn K (.ref ACannotWin) "__getattr__" = some none)
    (xCannotWin_hd : PySem.W.hasDictIn K ACannotWin = true)
    (xCannotWin_ha : PySem.W.findIn K (.ref ACannotWin) "__class__" = some (some (.builtin "object.__class__")))
    (xCannotWin_hm : PySem.W.mroIn K ACannotWin (.type "object") = some true)
    (xCannotWin_is : PySem.W.isClsIn K ACannotWin = true)
    (xCannotWin_ss : PySem.W.subIn K (.ref ACannotWin) (.ref ACannotWin) = some true)
    (xCannotWin_w : PySem.W.subIn K (.ref ACannotWin) (.ref AWholeError) = some true)
    (xw_i : PySem.W.isClsIn K AWholeError = true)
    (xw_t : PySem.W.typeIn K (.ref AWholeError) = some (.type "type"))
    (xw_b : PySem.W.subIn K (.ref AWholeError) (.type "BaseException") = some true)
    : ∃ fd : FuncData, (∀ (s : Shared) (v : Value), BindsTo s fd ⟨[v], []⟩ [("_law_script", v)]) ∧ ∀ base : Heap, K.In base → base.Ns mainGlobals mg → FnOk P w K mg base CX0 14 fa fd ["_law_script"] (spLaw K) := by
  have e := hfa.symm.trans (PySem.W.mg_of X G a_law)
  cases e
  have F_is_integer := fun_mk (st := s_is_integer) l_is_integer c_is_integer k_is_integer
  have D_is_integer : DefAt K mg "is_integer" s_is_integer pm_is_integer := ⟨_, _, F_is_integer, PySem.W.mg_of X G a_is_integer, F_is_integer.binds (ps := pm_is_integer) fun _ _ _ _ _ _ us hl => match us, hl with | [_], _ => rfl⟩
  have F_is_between := fun_mk (st := s_is_between) l_is_between c_is_between k_is_between
  have D_is_between : DefAt K mg "is_between" s_is_between pm_is_between := ⟨_, _, F_is_between, PySem.W.mg_of X G a_is_between, F_is_between.binds (ps := pm_is_between) fun _ _ _ _ _ _ us hl => match us, hl with | [_, _, _], _ => rfl⟩
  have F_is_index := fun_mk (st := s_is_index) l_is_index c_is_index k_is_index
  have D_is_index : DefAt K mg "is_index" s_is_index pm_is_index := ⟨_, _, F_is_index, PySem.W.mg_of X G a_is_index, F_is_index.binds (ps := pm_is_index) fun _ _ _ _ _ _ us hl => match us, hl with | [_, _], _ => rfl⟩
  have F_is_list := fun_mk (st := s_is_list) l_is_list c_is_list k_is_list
  have D_is_list : DefAt K mg "is_list" s_is_list pm_is_list := ⟨_, _, F_is_list, PySem.W.mg_of X G a_is_list, F_is_list.binds (ps := pm_is_list) fun _ _ _ _ _ _ us hl => match us, hl with | [_], _ => rfl⟩
  have F_is_list_of := fun_mk (st := s_is_list_of) l_is_list_of c_is_list_of k_is_list_of
  have D_is_list_of : DefAt K mg "is_list_of" s_is_list_of pm_is_list_of := ⟨_, _, F_is_list_of, PySem.W.mg_of X G a_is_list_of, F_is_list_of.binds (ps := pm_is_list_of) fun _ _ _ _ _ _ us hl => match us, hl with | [_, _, _], _ => rfl⟩
  have F_is_tuple_of := fun_mk (st := s_is_tuple_of) l_is_tuple_of c_is_tuple_of k_is_tuple_of
  have D_is_tuple_of : DefAt K mg "is_tuple_of" s_is_tuple_of pm_is_tuple_of := ⟨_, _, F_is_tuple_of, PySem.W.mg_of X G a_is_tuple_of, F_is_tuple_of.binds (ps := pm_is_tuple_of) fun _ _ _ _ _ _ us hl => match us, hl with | [_, _], _ => rfl⟩
  have F_are_rising_indexes := fun_mk (st := s_are_rising_indexes) l_are_rising_indexes c_are_rising_indexes k_are_rising_indexes
  have D_are_rising_indexes : DefAt K mg "are_rising_indexes" s_are_rising_indexes pm_are_rising_indexes := ⟨_, _, F_are_rising_indexes, PySem.W.mg_of X G a_are_rising_indexes, F_are_rising_indexes.binds (ps := pm_are_rising_indexes) fun _ _ _ _ _ _ us hl => match us, hl with | [_, _], _ => rfl⟩
  have F_is_lot := fun_mk (st := s_is_lot) l_is_lot c_is_lot k_is_lot
  have D_is_lot : DefAt K mg "is_lot" s_is_lot pm_is_lot := ⟨_, _, F_is_lot, PySem.W.mg_of X G a_is_lot, F_is_lot.binds (ps := pm_is_lot) fun _ _ _ _ _ _ us hl => match us, hl with | [_, _], _ => rfl⟩
  have F_greater := fun_mk (st := s_greater) l_greater c_greater k_greater
  have D_greater : DefAt K mg "greater" s_greater pm_greater := ⟨_, _, F_greater, PySem.W.mg_of X G a_greater, F_greater.binds (ps := pm_greater) fun _ _ _ _ _ _ us hl => match us, hl with | [_, _], _ => rfl⟩
  have F_is_begin := fun_mk (st := s_is_begin) l_is_begin c_is_begin k_is_begin
  have D_is_begin : DefAt K mg "is_begin" s_is_begin pm_is_begin := ⟨_, _, F_is_begin, PySem.W.mg_of X G a_is_begin, F_is_begin.binds (ps := pm_is_begin) fun _ _ _ _ _ _ us hl => match us, hl with | [_], _ => rfl⟩
  have F_are_delays := fun_mk (st := s_are_delays) l_are_delays c_are_delays k_are_delays
  have D_are_delays : DefAt K mg "are_delays" s_are_delays pm_are_delays := ⟨_, _, F_are_delays, PySem.W.mg_of X G a_are_delays, F_are_delays.binds (ps := pm_are_delays) fun _ _ _ _ _ _ us hl => match us, hl with | [_, _], _ => rfl⟩
  have F_is_box := fun_mk (st := s_is_box) l_is_box c_is_box k_is_box
  have D_is_box : DefAt K mg "is_box" s_is_box pm_is_box := ⟨_, _, F_is_box, PySem.W.mg_of X G a_is_box, F_is_box.binds (ps := pm_is_box) fun _ _ _ _ _ _ us hl => match us, hl with | [_, _, _], _ => rfl⟩
  have F_check_ways := fun_mk (st := s_check_ways) l_check_ways c_check_ways k_check_ways
  have D_check_ways : DefAt K mg "check_ways" s_check_ways pm_check_ways := ⟨_, _, F_check_ways, PySem.W.mg_of X G a_check_ways, F_check_ways.binds (ps := pm_check_ways) fun _ _ _ _ _ _ us hl => match us, hl with | [_], _ => rfl⟩
  have F_check_silent := fun_mk (st := s_check_silent) l_check_silent c_check_silent k_check_silent
  have D_check_silent : DefAt K mg "check_silent" s_check_silent pm_check_silent := ⟨_, _, F_check_silent, PySem.W.mg_of X G a_check_silent, F_check_silent.binds (ps := pm_check_silent) fun _ _ _ _ _ _ us hl => match us, hl with | [_], _ => rfl⟩
  have F_check_way := fun_mk (st := s_check_way) l_check_way c_check_way k_check_way
  have D_check_way : DefAt K mg "check_way" s_check_way pm_check_way := ⟨_, _, F_check_way, PySem.W.mg_of X G a_check_way, F_check_way.binds (ps := pm_check_way) fun _ _ _ _ _ _ us hl => match us, hl with | [_, _], _ => rfl⟩
  have F_fits := fun_mk (st := s_fits) l_fits c_fits k_fits
  have D_fits : DefAt K mg "fits" s_fits pm_fits := ⟨_, _, F_fits, PySem.W.mg_of X G a_fits, F_fits.binds (ps := pm_fits) fun _ _ _ _ _ _ us hl => match us, hl with | [_, _], _ => rfl⟩
  have F_wrong_of := fun_mk (st := s_wrong_of) l_wrong_of c_wrong_of k_wrong_of
  have D_wrong_of : DefAt K mg "wrong_of" s_wrong_of pm_wrong_of := ⟨_, _, F_wrong_of, PySem.W.mg_of X G a_wrong_of, F_wrong_of.binds (ps := pm_wrong_of) fun _ _ _ _ _ _ us hl => match us, hl with | [_, _], _ => rfl⟩
  have F_outcome_of := fun_mk (st := s_outcome_of) l_outcome_of c_outcome_of k_outcome_of
  have D_outcome_of : DefAt K mg "outcome_of" s_outcome_of pm_outcome_of := ⟨_, _, F_outcome_of, PySem.W.mg_of X G a_outcome_of, F_outcome_of.binds (ps := pm_outcome_of) fun _ _ _ _ _ _ us hl => match us, hl with | [_, _], _ => rfl⟩
  have F_check_win := fun_mk (st := s_check_win) l_check_win c_check_win k_check_win
  have D_check_win : DefAt K mg "check_win" s_check_win pm_check_win := ⟨_, _, F_check_win, PySem.W.mg_of X G a_check_win, F_check_win.binds (ps := pm_check_win) fun _ _ _ _ _ _ us hl => match us, hl with | [_, _, _], _ => rfl⟩
  have F_answer_at := fun_mk (st := s_answer_at) l_answer_at c_answer_at k_answer_at
  have D_answer_at : DefAt K mg "answer_at" s_answer_at pm_answer_at := ⟨_, _, F_answer_at, PySem.W.mg_of X G a_answer_at, F_answer_at.binds (ps := pm_answer_at) fun _ _ _ _ _ _ us hl => match us, hl with | [_, _], _ => rfl⟩
  have F_win_run := fun_mk (st := s_win_run) l_win_run c_win_run k_win_run
  have D_win_run : DefAt K mg "win_run" s_win_run pm_win_run := ⟨_, _, F_win_run, PySem.W.mg_of X G a_win_run, F_win_run.binds (ps := pm_win_run) fun _ _ _ _ _ _ us hl => match us, hl with | [_, _, _], _ => rfl⟩
  have F_in_window := fun_mk (st := s_in_window) l_in_window c_in_window k_in_window
  have D_in_window : DefAt K mg "in_window" s_in_window pm_in_window := ⟨_, _, F_in_window, PySem.W.mg_of X G a_in_window, F_in_window.binds (ps := pm_in_window) fun _ _ _ _ _ _ us hl => match us, hl with | [_, _, _], _ => rfl⟩
  have F_win_paper := fun_mk (st := s_win_paper) l_win_paper c_win_paper k_win_paper
  have D_win_paper : DefAt K mg "win_paper" s_win_paper pm_win_paper := ⟨_, _, F_win_paper, PySem.W.mg_of X G a_win_paper, F_win_paper.binds (ps := pm_win_paper) fun _ _ _ _ _ _ us hl => match us, hl with | [_, _, _], _ => rfl⟩
  have F_ways_by_end := fun_mk (st := s_ways_by_end) l_ways_by_end c_ways_by_end k_ways_by_end
  have D_ways_by_end : DefAt K mg "ways_by_end" s_ways_by_end pm_ways_by_end := ⟨_, _, F_ways_by_end, PySem.W.mg_of X G a_ways_by_end, F_ways_by_end.binds (ps := pm_ways_by_end) fun _ _ _ _ _ _ us hl => match us, hl with | [_], _ => rfl⟩
  have F_latest_paper := fun_mk (st := s_latest_paper) l_latest_paper c_latest_paper k_latest_paper
  have D_latest_paper : DefAt K mg "latest_paper" s_latest_paper pm_latest_paper := ⟨_, _, F_latest_paper, PySem.W.mg_of X G a_latest_paper, F_latest_paper.binds (ps := pm_latest_paper) fun _ _ _ _ _ _ us hl => match us, hl with | [_], _ => rfl⟩
  have F_ends_at := fun_mk (st := s_ends_at) l_ends_at c_ends_at k_ends_at
  have D_ends_at : DefAt K mg "ends_at" s_ends_at pm_ends_at := ⟨_, _, F_ends_at, PySem.W.mg_of X G a_ends_at, F_ends_at.binds (ps := pm_ends_at) fun _ _ _ _ _ _ us hl => match us, hl with | [_, _, _], _ => rfl⟩
  have F_shows_win := fun_mk (st := s_shows_win) l_shows_win c_shows_win k_shows_win
  have D_shows_win : DefAt K mg "shows_win" s_shows_win pm_shows_win := ⟨_, _, F_shows_win, PySem.W.mg_of X G a_shows_win, F_shows_win.binds (ps := pm_shows_win) fun _ _ _ _ _ _ us hl => match us, hl with | [_, _, _, _], _ => rfl⟩
  have F_shows_never := fun_mk (st := s_shows_never) l_shows_never c_shows_never k_shows_never
  have D_shows_never : DefAt K mg "shows_never" s_shows_never pm_shows_never := ⟨_, _, F_shows_never, PySem.W.mg_of X G a_shows_never, F_shows_never.binds (ps := pm_shows_never) fun _ _ _ _ _ _ us hl => match us, hl with | [_, _, _, _], _ => rfl⟩
  have F_shows_latest := fun_mk (st := s_shows_latest) l_shows_latest c_shows_latest k_shows_latest
  have D_shows_latest : DefAt K mg "shows_latest" s_shows_latest pm_shows_latest := ⟨_, _, F_shows_latest, PySem.W.mg_of X G a_shows_latest, F_shows_latest.binds (ps := pm_shows_latest) fun _ _ _ _ _ _ us hl => match us, hl with | [_, _, _, _], _ => rfl⟩
  have F_shows_unanswered := fun_mk (st := s_shows_unanswered) l_shows_unanswered c_shows_unanswered k_shows_unanswered
  have D_shows_unanswered : DefAt K mg "shows_unanswered" s_shows_unanswered pm_shows_unanswered := ⟨_, _, F_shows_unanswered, PySem.W.mg_of X G a_shows_unanswered, F_shows_unanswered.binds (ps := pm_shows_unanswered) fun _ _ _ _ _ _ us hl => match us, hl with | [_, _], _ => rfl⟩
  have F__law_draw := fun_mk (st := s__law_draw) l__law_draw c__law_draw k__law_draw
  have D__law_draw : DefAt K mg "_law_draw" s__law_draw pm__law_draw := ⟨_, _, F__law_draw, PySem.W.mg_of X G a__law_draw, F__law_draw.binds (ps := pm__law_draw) fun _ _ _ _ _ _ us hl => match us, hl with | [_, _], _ => rfl⟩
  have F__law_way := fun_mk (st := s__law_way) l__law_way c__law_way k__law_way
  have D__law_way : DefAt K mg "_law_way" s__law_way pm__law_way := ⟨_, _, F__law_way, PySem.W.mg_of X G a__law_way, F__law_way.binds (ps := pm__law_way) fun _ _ _ _ _ _ us hl => match us, hl with | [_], _ => rfl⟩
  have F__law_ways := fun_mk (st := s__law_ways) l__law_ways c__law_ways k__law_ways
  have D__law_ways : DefAt K mg "_law_ways" s__law_ways pm__law_ways := ⟨_, _, F__law_ways, PySem.W.mg_of X G a__law_ways, F__law_ways.binds (ps := pm__law_ways) fun _ _ _ _ _ _ us hl => match us, hl with | [_, _], _ => rfl⟩
  have F__law_made := fun_mk (st := s__law_made) l__law_made c__law_made k__law_made
  have D__law_made : DefAt K mg "_law_made" s__law_made pm__law_made := ⟨_, _, F__law_made, PySem.W.mg_of X G a__law_made, F__law_made.binds (ps := pm__law_made) fun _ _ _ _ _ _ us hl => match us, hl with | [_], _ => rfl⟩
  have F__law_entries := fun_mk (st := s__law_entries) l__law_entries c__law_entries k__law_entries
  have D__law_entries : DefAt K mg "_law_entries" s__law_entries pm__law_entries := ⟨_, _, F__law_entries, PySem.W.mg_of X G a__law_entries, F__law_entries.binds (ps := pm__law_entries) fun _ _ _ _ _ _ us hl => match us, hl with | [_], _ => rfl⟩
  have F__law_quiet := fun_mk (st := s__law_quiet) l__law_quiet c__law_quiet k__law_quiet
  have D__law_quiet : DefAt K mg "_law_quiet" s__law_quiet pm__law_quiet := ⟨_, _, F__law_quiet, PySem.W.mg_of X G a__law_quiet, F__law_quiet.binds (ps := pm__law_quiet) fun _ _ _ _ _ _ us hl => match us, hl with | [_, _], _ => rfl⟩
  have F__law_runs := fun_mk (st := s__law_runs) l__law_runs c__law_runs k__law_runs
  have D__law_runs : DefAt K mg "_law_runs" s__law_runs pm__law_runs := ⟨_, _, F__law_runs, PySem.W.mg_of X G a__law_runs, F__law_runs.binds (ps := pm__law_runs) fun _ _ _ _ _ _ us hl => match us, hl with | [_, _], _ => rfl⟩
  have F__law_outcome := fun_mk (st := s__law_outcome) l__law_outcome c__law_outcome k__law_outcome
  have D__law_outcome : DefAt K mg "_law_outcome" s__law_outcome pm__law_outcome := ⟨_, _, F__law_outcome, PySem.W.mg_of X G a__law_outcome, F__law_outcome.binds (ps := pm__law_outcome) fun _ _ _ _ _ _ us hl => match us, hl with | [_, _], _ => rfl⟩
  have F__law_hurried := fun_mk (st := s__law_hurried) l__law_hurried c__law_hurried k__law_hurried
  have D__law_hurried : DefAt K mg "_law_hurried" s__law_hurried pm__law_hurried := ⟨_, _, F__law_hurried, PySem.W.mg_of X G a__law_hurried, F__law_hurried.binds (ps := pm__law_hurried) fun _ _ _ _ _ _ us hl => match us, hl with | [_, _, _], _ => rfl⟩
  have F__law_is_lot := fun_mk (st := s__law_is_lot) l__law_is_lot c__law_is_lot k__law_is_lot
  have D__law_is_lot : DefAt K mg "_law_is_lot" s__law_is_lot pm__law_is_lot := ⟨_, _, F__law_is_lot, PySem.W.mg_of X G a__law_is_lot, F__law_is_lot.binds (ps := pm__law_is_lot) fun _ _ _ _ _ _ us hl => match us, hl with | [_, _], _ => rfl⟩
  have F__law_never := fun_mk (st := s__law_never) l__law_never c__law_never k__law_never
  have D__law_never : DefAt K mg "_law_never" s__law_never pm__law_never := ⟨_, _, F__law_never, PySem.W.mg_of X G a__law_never, F__law_never.binds (ps := pm__law_never) fun _ _ _ _ _ _ us hl => match us, hl with | [_, _, _, _, _], _ => rfl⟩
  have F__law_latest := fun_mk (st := s__law_latest) l__law_latest c__law_latest k__law_latest
  have D__law_latest : DefAt K mg "_law_latest" s__law_latest pm__law_latest := ⟨_, _, F__law_latest, PySem.W.mg_of X G a__law_latest, F__law_latest.binds (ps := pm__law_latest) fun _ _ _ _ _ _ us hl => match us, hl with | [_, _, _, _, _, _], _ => rfl⟩
  have F__law_run_of := fun_mk (st := s__law_run_of) l__law_run_of c__law_run_of k__law_run_of
  have D__law_run_of : DefAt K mg "_law_run_of" s__law_run_of pm__law_run_of := ⟨_, _, F__law_run_of, PySem.W.mg_of X G a__law_run_of, F__law_run_of.binds (ps := pm__law_run_of) fun _ _ _ _ _ _ us hl => match us, hl with | [_, _, _], _ => rfl⟩
  have F__law_lot := fun_mk (st := s__law_lot) l__law_lot c__law_lot k__law_lot
  have D__law_lot : DefAt K mg "_law_lot" s__law_lot pm__law_lot := ⟨_, _, F__law_lot, PySem.W.mg_of X G a__law_lot, F__law_lot.binds (ps := pm__law_lot) fun _ _ _ _ _ _ us hl => match us, hl with | [_, _], _ => rfl⟩
  have F__law_run := fun_mk (st := s__law_run) l__law_run c__law_run k__law_run
  have D__law_run : DefAt K mg "_law_run" s__law_run pm__law_run := ⟨_, _, F__law_run, PySem.W.mg_of X G a__law_run, F__law_run.binds (ps := pm__law_run) fun _ _ _ _ _ _ us hl => match us, hl with | [_, _], _ => rfl⟩
  have F__law_moment := fun_mk (st := s__law_moment) l__law_moment c__law_moment k__law_moment
  have D__law_moment : DefAt K mg "_law_moment" s__law_moment pm__law_moment := ⟨_, _, F__law_moment, PySem.W.mg_of X G a__law_moment, F__law_moment.binds (ps := pm__law_moment) fun _ _ _ _ _ _ us hl => match us, hl with | [_, _, _], _ => rfl⟩
  have F__law_shown := fun_mk (st := s__law_shown) l__law_shown c__law_shown k__law_shown
  have D__law_shown : DefAt K mg "_law_shown" s__law_shown pm__law_shown := ⟨_, _, F__law_shown, PySem.W.mg_of X G a__law_shown, F__law_shown.binds (ps := pm__law_shown) fun _ _ _ _ _ _ us hl => match us, hl with | [_, _, _, _, _], _ => rfl⟩
  have F__law_told_right := fun_mk (st := s__law_told_right) l__law_told_right c__law_told_right k__law_told_right
  have D__law_told_right : DefAt K mg "_law_told_right" s__law_told_right pm__law_told_right := ⟨_, _, F__law_told_right, PySem.W.mg_of X G a__law_told_right, F__law_told_right.binds (ps := pm__law_told_right) fun _ _ _ _ _ _ us hl => match us, hl with | [_, _, _, _, _, _], _ => rfl⟩
  have F__law_judged := fun_mk (st := s__law_judged) l__law_judged c__law_judged k__law_judged
  have D__law_judged : DefAt K mg "_law_judged" s__law_judged pm__law_judged := ⟨_, _, F__law_judged, PySem.W.mg_of X G a__law_judged, F__law_judged.binds (ps := pm__law_judged) fun _ _ _ _ _ _ us hl => match us, hl with | [_, _, _, _, _, _, _, _], _ => rfl⟩
  have F_BadPart_init := fun_mk (st := s_BadPart_init) l_BadPart_init c_BadPart_init k_BadPart_init
  have F_BadBox_init := fun_mk (st := s_BadBox_init) l_BadBox_init c_BadBox_init k_BadBox_init
  have F_NoWay_init := fun_mk (st := s_NoWay_init) l_NoWay_init c_NoWay_init k_NoWay_init
  have F_CannotWin_init := fun_mk (st := s_CannotWin_init) l_CannotWin_init c_CannotWin_init k_CannotWin_init
  have FI : FunD K "__init__" "Way.__init__" (defArgs s_Way_init) (defBody s_Way_init) (defScope s_Way_init) [.ref AT0] [] f_Way_init _ := ⟨⟨_, _, _, _, _, _, _, _, _, _, rfl, l_Way_init, c_Way_init, .inr ⟨(fun z => nomatch z), Td, _, [.ref AT0], dn, rfl, d_T, rfl, .cons rfl .nil⟩, .inl rfl⟩, k_Way_init⟩
  obtain ⟨d4, v4, B4⟩ := FI.binds1 (ps := pm_Way_init) 5 1 (fun z => nomatch z) rfl (fun T kV doc pm an cdv ct us its hu hi => match us, hu, its, hi with | [_, _, _, _, _], _, [_], _ => ⟨_, rfl, rfl⟩)
  obtain ⟨d3, v3, B3⟩ := FI.binds1 (ps := pm_Way_init) 4 0 (fun z => nomatch z) rfl (fun T kV doc pm an cdv ct us its hu hi => match us, hu, its, hi with | [_, _, _, _], _, [_], _ => ⟨_, rfl, rfl⟩)
  cases v4
  have F_Way_window := fun_mk (st := s_Way_window) l_Way_window c_Way_window k_Way_window
  have M_Way_window : MethAt K AWay "window" "Way.window" s_Way_window pm_Way_window := ⟨_, _, F_Way_window, a_Way_window, i_Way_window, F_Way_window.binds (ps := pm_Way_window) fun _ _ _ _ _ _ us hl => match us, hl with | [_], _ => rfl⟩
  have F_Race_init := fun_mk (st := s_Race_init) l_Race_init c_Race_init k_Race_init
  have M_Race_init : MethAt K ARace "__init__" "Race.__init__" s_Race_init pm_Race_init := ⟨_, _, F_Race_init, a_Race_init, i_Race_init, F_Race_init.binds (ps := pm_Race_init) fun _ _ _ _ _ _ us hl => match us, hl with | [_, _, _], _ => rfl⟩
  have F_Race_planned := fun_mk (st := s_Race_planned) l_Race_planned c_Race_planned k_Race_planned
  have M_Race_planned : MethAt K ARace "planned" "Race.planned" s_Race_planned pm_Race_planned := ⟨_, _, F_Race_planned, a_Race_planned, i_Race_planned, F_Race_planned.binds (ps := pm_Race_planned) fun _ _ _ _ _ _ us hl => match us, hl with | [_], _ => rfl⟩
  have F_Race_hurried := fun_mk (st := s_Race_hurried) l_Race_hurried c_Race_hurried k_Race_hurried
  have M_Race_hurried : MethAt K ARace "hurried" "Race.hurried" s_Race_hurried pm_Race_hurried := ⟨_, _, F_Race_hurried, a_Race_hurried, i_Race_hurried, F_Race_hurried.binds (ps := pm_Race_hurried) fun _ _ _ _ _ _ us hl => match us, hl with | [_, _, _], _ => rfl⟩
  have F_Race_can_win := fun_mk (st := s_Race_can_win) l_Race_can_win c_Race_can_win k_Race_can_win
  have M_Race_can_win : MethAt K ARace "can_win" "Race.can_win" s_Race_can_win pm_Race_can_win := ⟨_, _, F_Race_can_win, a_Race_can_win, i_Race_can_win, F_Race_can_win.binds (ps := pm_Race_can_win) fun _ _ _ _ _ _ us hl => match us, hl with | [_, _, _], _ => rfl⟩
  have F_Race_latest := fun_mk (st := s_Race_latest) l_Race_latest c_Race_latest k_Race_latest
  have M_Race_latest : MethAt K ARace "latest" "Race.latest" s_Race_latest pm_Race_latest := ⟨_, _, F_Race_latest, a_Race_latest, i_Race_latest, F_Race_latest.binds (ps := pm_Race_latest) fun _ _ _ _ _ _ us hl => match us, hl with | [_], _ => rfl⟩
  have F_Outcome_init := fun_mk (st := s_Outcome_init) l_Outcome_init c_Outcome_init k_Outcome_init
  have M_Outcome_init : MethAt K AOutcome "__init__" "Outcome.__init__" s_Outcome_init pm_Outcome_init := ⟨_, _, F_Outcome_init, a_Outcome_init, i_Outcome_init, F_Outcome_init.binds (ps := pm_Outcome_init) fun _ _ _ _ _ _ us hl => match us, hl with | [_, _, _, _], _ => rfl⟩
  have T : Txt K mg ⟨ABadPart, ABadBox, ANoWay, ACannotWin, AWholeError, AWay, ARace, AOutcome, AT0⟩ :=
    { n_isinstance := PySem.W.mg_none_of X G n_isinstance,
      n_int := PySem.W.mg_none_of X G n_int,
      n_bool := PySem.W.mg_none_of X G n_bool,
      n_list := PySem.W.mg_none_of X G n_list,
      n_tuple := PySem.W.mg_none_of X G n_tuple,
      n_len := PySem.W.mg_none_of X G n_len,
      n_range := PySem.W.mg_none_of X G n_range,
      n_max := PySem.W.mg_none_of X G n_max,
      n_sum := PySem.W.mg_none_of X G n_sum,
      n_zip := PySem.W.mg_none_of X G n_zip,
      n_set := PySem.W.mg_none_of X G n_set,
      n_enumerate := PySem.W.mg_none_of X G n_enumerate,
      n_all := PySem.W.mg_none_of X G n_all,
      n_sorted := PySem.W.mg_none_of X G n_sorted,
      g_MOST_BEGIN := ⟨_, PySem.W.mg_of X G v_MOST_BEGIN⟩,
      g_MOST_DELAY := ⟨_, PySem.W.mg_of X G v_MOST_DELAY⟩,
      g_MOST_BOXES := ⟨_, PySem.W.mg_of X G v_MOST_BOXES⟩,
      g_MOST_KEEP := ⟨_, PySem.W.mg_of X G v_MOST_KEEP⟩,
      g_MOST_WAYS := ⟨_, PySem.W.mg_of X G v_MOST_WAYS⟩,
      g_MOST_SILENT := ⟨_, PySem.W.mg_of X G v_MOST_SILENT⟩,
      Way := ⟨PySem.W.mg_of X G g_Way, ⟨pg_Way, hd_Way, po_Way, sa_Way⟩, ha_Way, s_hn, s_tk, hm_Way, ne_Way, is_Way, ty_Way, tup_Way, lst_Way, int_Way, str_Way⟩,
      w_begin := na_Way_begin,
      w_least := na_Way_least,
      w_most := na_Way_most,
      w_boxes := na_Way_boxes,
      Race := ⟨PySem.W.mg_of X G g_Race, ⟨pg_Race, hd_Race, po_Race, sa_Race⟩, ha_Race, s_hn, s_tk, hm_Race, ne_Race, is_Race, ty_Race, tup_Race, lst_Race, int_Race, str_Race⟩,
      r_ways := na_Race_ways,
      r_silent := na_Race_silent,
      Outcome := ⟨PySem.W.mg_of X G g_Outcome, ⟨pg_Outcome, hd_Outcome, po_Outcome, sa_Outcome⟩, ha_Outcome, s_hn, s_tk, hm_Outcome, ne_Outcome, is_Outcome, ty_Outcome, tup_Outcome, lst_Outcome, int_Outcome, str_Outcome⟩,
      o_winner := na_Outcome_winner,
      o_moment := na_Outcome_moment,
      o_sent := na_Outcome_sent,
      BadPart := ⟨⟨⟨_, _, _, _, _, _, _, _, _, _, _, _, _, _, _, xBadPart_L, ve_one⟩, xBadPart_sa, xBadPart_ex, xBadPart_ty, xBadPart_kC⟩, PySem.W.mg_of X G g_BadPart, xBadPart_noA, ⟨xBadPart_hg, xBadPart_hk, xBadPart_ex, xBadPart_hd, xBadPart_ha, s_hn, s_tk, xBadPart_hm⟩, _, a_BadPart_init, i_BadPart_init, _, F_BadPart_init, F_BadPart_init.binds (ps := ["self", "part"]) fun _ _ _ _ _ _ us hl => match us, hl with | [_, _], _ => rfl⟩,
      BadBox := ⟨⟨⟨_, _, _, _, _, _, _, _, _, _, _, _, _, _, _, xBadBox_L, ve_one⟩, xBadBox_sa, xBadBox_ex, xBadBox_ty, xBadBox_kC⟩, PySem.W.mg_of X G g_BadBox, xBadBox_noA, ⟨xBadBox_hg, xBadBox_hk, xBadBox_ex, xBadBox_hd, xBadBox_ha, s_hn, s_tk, xBadBox_hm⟩, _, a_BadBox_init, i_BadBox_init, _, F_BadBox_init, F_BadBox_init.binds (ps := ["self", "index"]) fun _ _ _ _ _ _ us hl => match us, hl with | [_, _], _ => rfl⟩,
      NoWay := ⟨⟨⟨_, _, _, _, _, _, _, _, _, _, _, _, _, _, _, xNoWay_L, ve_one⟩, xNoWay_sa, xNoWay_ex, xNoWay_ty, xNoWay_kC⟩, PySem.W.mg_of X G g_NoWay, xNoWay_noA, ⟨xNoWay_hg, xNoWay_hk, xNoWay_ex, xNoWay_hd, xNoWay_ha, s_hn, s_tk, xNoWay_hm⟩, _, a_NoWay_init, i_NoWay_init, _, F_NoWay_init, F_NoWay_init.binds (ps := ["self", "way"]) fun _ _ _ _ _ _ us hl => match us, hl with | [_, _], _ => rfl⟩,
      CannotWin := ⟨⟨⟨_, _, _, _, _, _, _, _, _, _, _, _, _, _, _, xCannotWin_L, ve_one⟩, xCannotWin_sa, xCannotWin_ex, xCannotWin_ty, xCannotWin_kC⟩, PySem.W.mg_of X G g_CannotWin, xCannotWin_noA, ⟨xCannotWin_hg, xCannotWin_hk, xCannotWin_ex, xCannotWin_hd, xCannotWin_ha, s_hn, s_tk, xCannotWin_hm⟩, _, a_CannotWin_init, i_CannotWin_init, _, F_CannotWin_init, F_CannotWin_init.binds (ps := ["self", "way"]) fun _ _ _ _ _ _ us hl => match us, hl with | [_, _], _ => rfl⟩,
      g_WholeError := PySem.W.mg_of X G g_WholeError,
      x_cc := exm_ref xCannotWin_ex xCannotWin_is xCannotWin_ty xCannotWin_ss,
      t0 := fun H => .inr ⟨_, #[], en, d_0, rfl, rfl, Nat.zero_le _, .nil⟩ }
  exact ⟨PySem.W.fnOf "law" "law" (defArgs s_law) (defBody s_law) (defScope s_law) .none kV_law dc_law pm_law_ an_law cd_law ct_law, fun s v => .of_eq rfl, fun base _ _ =>
    law_ok T D_is_integer D_is_between D_is_index D_is_list D_is_list_of D_is_tuple_of D_are_rising_indexes D_is_lot D_greater D_is_begin D_are_delays D_is_box D_check_ways D_check_silent D_check_way D_fits D_wrong_of D_outcome_of D_check_win D_answer_at D_win_run D_in_window D_win_paper D_ways_by_end D_latest_paper D_ends_at D_shows_win D_shows_never D_shows_latest D_shows_unanswered D__law_draw D__law_way D__law_ways D__law_made D__law_entries D__law_quiet D__law_runs D__law_outcome D__law_hurried D__law_is_lot D__law_never D__law_latest D__law_run_of D__law_lot D__law_run D__law_moment D__law_shown D__law_told_right D__law_judged M_Way_window M_Race_init M_Race_planned M_Race_hurried M_Race_can_win M_Race_latest M_Outcome_init mk_Race kc_Race mk_Outcome kc_Outcome FI ⟨mk_Way, a_Way_init, i_Way_init, kc_Way⟩ B4 v3 B3 (fun_mk (st := s_law) l_law c_law k_law)⟩
theorem walk {l : PySem.W.OpenLaw} {q : Program} {loose : List Str} {XP : (Str → Option Value) → Heap → Prop} {YP : World → Heap → Prop} {d : DefRec} {K : Params → PySem.W.Frag} (hn : l.most = some 63) (hdf : d.params.defaults = [])
    (hY : ∀ (w : World) (h : Heap), YP w h → (K w.params).In h)
    (F : ∀ (w : World) (mg : Str → Option Value) (fa : Addr) (h : Heap), (K w.params).In h → h.Ns mainGlobals mg → mg d.name = some (.ref fa) →
      ∃ fd : FuncData, (∀ (s : Shared) (u : Value), BindsTo s fd ⟨[u], []⟩ [("_law_script", u)]) ∧ ∀ base : Heap, (K w.params).In base → base.Ns mainGlobals mg → FnOk l.prog w (K w.params) mg base CX0 14 fa fd ["_law_script"] (spLaw (K w.params))) :
    PySem.W.WalkO q loose XP YP l.row.toRowW d [] (fun f vs => PySem.call f vs) :=
  L2.walk_of (n := 63) (k := 14) (x := "_law_script") (CX := fun _ => CX0) (sp := fun w => spLaw (K w.params)) hn (by decide) hdf ⟨rfl, by decide, by decide⟩ hY F (fun _ _ a ns hl _ hS => ⟨a, ns, rfl, hS, hl, fun _ => rfl⟩) fun _ _ _ _ _ z => z
end K19

open PySem PySem.W PyProof.Rows in
set_option maxRecDepth 100000 in
set_option maxHeartbeats 0 in
theorem PySem.Challenge.cw_wholeline_k19_race_papers_of_anyone_holds : PySem.Challenge.rw_wholeline_k19_race_papers_of_anyone.Holds := by
  w_on; o_law; k_head; (case hw => w_witness2)
  k_fill
  refine K19.walk (l := PySem.Challenge.rw_wholeline_k19_race_papers_of_anyone) rfl rfl (fun w h Y => PySem.W.kIn_of Y) ?F
  case F =>
    intro w mg fa h KX G hmg
    refine' K19.all_mk KX G hmg ?q_g_BadPart ?q_g_BadBox ?q_g_NoWay ?q_g_CannotWin ?q_g_WholeError ?q_g_Way ?q_g_Race ?q_g_Outcome ?q_a_is_integer ?q_l_is_integer ?q_c_is_integer ?q_k_is_integer ?q_a_is_between ?q_l_is_between ?q_c_is_between ?q_k_is_between ?q_a_is_index ?q_l_is_index ?q_c_is_index ?q_k_is_index ?q_a_is_list ?q_l_is_list ?q_c_is_list ?q_k_is_list ?q_a_is_list_of ?q_l_is_list_of ?q_c_is_list_of ?q_k_is_list_of ?q_a_is_tuple_of ?q_l_is_tuple_of ?q_c_is_tuple_of ?q_k_is_tuple_of ?q_a_are_rising_indexes ?q_l_are_rising_indexes ?q_c_are_rising_indexes ?q_k_are_rising_indexes ?q_a_is_lot ?q_l_is_lot ?q_c_is_lot ?q_k_is_lot ?q_a_greater ?q_l_greater ?q_c_greater ?q_k_greater ?q_a_is_begin ?q_l_is_begin ?q_c_is_begin ?q_k_is_begin ?q_a_are_delays ?q_l_are_delays ?q_c_are_delays ?q_k_are_delays ?q_a_is_box ?q_l_is_box ?q_c_is_box ?q_k_is_box ?q_a_check_ways ?q_l_check_ways ?q_c_check_ways ?q_k_check_ways ?q_a_check_silent ?q_l_check_silent ?q_c_check_silent ?q_k_check_silent ?q_a_check_way ?q_l_check_way ?q_c_check_way ?q_k_check_way ?q_a_fits ?q_l_fits ?q_c_fits ?q_k_fits ?q_a_wrong_of ?q_l_wrong_of ?q_c_wrong_of ?q_k_wrong_of ?q_a_outcome_of ?q_l_outcome_of ?q_c_outcome_of ?q_k_outcome_of ?q_a_check_win ?q_l_check_win ?q_c_check_win ?q_k_check_win ?q_a_answer_at ?q_l_answer_at ?q_c_answer_at ?q_k_answer_at ?q_a_win_run ?q_l_win_run ?q_c_win_run ?q_k_win_run ?q_a_in_window ?q_l_in_window ?q_c_in_window ?q_k_in_window ?q_a_win_paper ?q_l_win_paper ?q_c_win_paper ?q_k_win_paper ?q_a_ways_by_end ?q_l_ways_by_end ?q_c_ways_by_end ?q_k_ways_by_end ?q_a_latest_paper ?q_l_latest_paper ?q_c_latest_paper ?q_k_latest_paper ?q_a_ends_at ?q_l_ends_at ?q_c_ends_at ?q_k_ends_at ?q_a_shows_win ?q_l_shows_win ?q_c_shows_win ?q_k_shows_win ?q_a_shows_never ?q_l_shows_never ?q_c_shows_never ?q_k_shows_never ?q_a_shows_latest ?q_l_shows_latest ?q_c_shows_latest ?q_k_shows_latest ?q_a_shows_unanswered ?q_l_shows_unanswered ?q_c_shows_unanswered ?q_k_shows_unanswered ?q_a__law_draw ?q_l__law_draw ?q_c__law_draw ?q_k__law_draw ?q_a__law_way ?q_l__law_way ?q_c__law_way ?q_k__law_way ?q_a__law_ways ?q_l__law_ways ?q_c__law_ways ?q_k__law_ways ?q_a__law_made ?q_l__law_made ?q_c__law_made ?q_k__law_made ?q_a__law_entries ?q_l__law_entries ?q_c__law_entries ?q_k__law_entries ?q_a__law_quiet ?q_l__law_quiet ?q_c__law_quiet ?q_k__law_quiet ?q_a__law_runs ?q_l__law_runs ?q_c__law_runs ?q_k__law_runs ?q_a__law_outcome ?q_l__law_outcome ?q_c__law_outcome ?q_k__law_outcome ?q_a__law_hurried ?q_l__law_hurried ?q_c__law_hurried ?q_k__law_hurried ?q_a__law_is_lot ?q_l__law_is_lot ?q_c__law_is_lot ?q_k__law_is_lot ?q_a__law_never ?q_l__law_never ?q_c__law_never ?q_k__law_never ?q_a__law_latest ?q_l__law_latest ?q_c__law_latest ?q_k__law_latest ?q_a__law_run_of ?q_l__law_run_of ?q_c__law_run_of ?q_k__law_run_of ?q_a__law_lot ?q_l__law_lot ?q_c__law_lot ?q_k__law_lot ?q_a__law_run ?q_l__law_run ?q_c__law_run ?q_k__law_run ?q_a__law_moment ?q_l__law_moment ?q_c__law_moment ?q_k__law_moment ?q_a__law_shown ?q_l__law_shown ?q_c__law_shown ?q_k__law_shown ?q_a__law_told_right ?q_l__law_told_right ?q_c__law_told_right ?q_k__law_told_right ?q_a__law_judged ?q_l__law_judged ?q_c__law_judged ?q_k__law_judged ?q_a_law ?q_l_law ?q_c_law ?q_k_law ?q_a_BadPart_init ?q_i_BadPart_init ?q_l_BadPart_init ?q_c_BadPart_init ?q_k_BadPart_init ?q_a_BadBox_init ?q_i_BadBox_init ?q_l_BadBox_init ?q_c_BadBox_init ?q_k_BadBox_init ?q_a_NoWay_init ?q_i_NoWay_init ?q_l_NoWay_init ?q_c_NoWay_init ?q_k_NoWay_init ?q_a_CannotWin_init ?q_i_CannotWin_init ?q_l_CannotWin_init ?q_c_CannotWin_init ?q_k_CannotWin_init ?q_a_Way_init ?q_i_Way_init ?q_l_Way_init ?q_c_Way_init ?q_k_Way_init ?q_a_Way_window ?q_i_Way_window ?q_l_Way_window ?q_c_Way_window ?q_k_Way_window ?q_a_Race_init ?q_i_Race_init ?q_l_Race_init ?q_c_Race_init ?q_k_Race_init ?q_a_Race_planned ?q_i_Race_planned ?q_l_Race_planned ?q_c_Race_planned ?q_k_Race_planned ?q_a_Race_hurried ?q_i_Race_hurried ?q_l_Race_hurried ?q_c_Race_hurried ?q_k_Race_hurried ?q_a_Race_can_win ?q_i_Race_can_win ?q_l_Race_can_win ?q_c_Race_can_win ?q_k_Race_can_win ?q_a_Race_latest ?q_i_Race_latest ?q_l_Race_latest ?q_c_Race_latest ?q_k_Race_latest ?q_a_Outcome_init ?q_i_Outcome_init ?q_l_Outcome_init ?q_c_Outcome_init ?q_k_Outcome_init ?q_d_T ?q_d_0 ?q_n_isinstance ?q_n_int ?q_n_bool ?q_n_list ?q_n_tuple ?q_n_len ?q_n_range ?q_n_max ?q_n_sum ?q_n_zip ?q_n_set ?q_n_enumerate ?q_n_all ?q_n_sorted ?q_v_MOST_BEGIN ?q_v_MOST_DELAY ?q_v_MOST_BOXES ?q_v_MOST_KEEP ?q_v_MOST_WAYS ?q_v_MOST_SILENT ?q_s_hn ?q_s_tk ?q_pg_Way ?q_hd_Way ?q_po_Way ?q_sa_Way ?q_ha_Way ?q_hm_Way ?q_ne_Way ?q_is_Way ?q_ty_Way ?q_tup_Way ?q_lst_Way ?q_int_Way ?q_str_Way ?q_mk_Way ?q_kc_Way ?q_na_Way_begin ?q_na_Way_least ?q_na_Way_most ?q_na_Way_boxes ?q_pg_Race ?q_hd_Race ?q_po_Race ?q_sa_Race ?q_ha_Race ?q_hm_Race ?q_ne_Race ?q_is_Race ?q_ty_Race ?q_tup_Race ?q_lst_Race ?q_int_Race ?q_str_Race ?q_mk_Race ?q_kc_Race ?q_na_Race_ways ?q_na_Race_silent ?q_pg_Outcome ?q_hd_Outcome ?q_po_Outcome ?q_sa_Outcome ?q_ha_Outcome ?q_hm_Outcome ?q_ne_Outcome ?q_is_Outcome ?q_ty_Outcome ?q_tup_Outcome ?q_lst_Outcome ?q_int_Outcome ?q_str_Outcome ?q_mk_Outcome ?q_kc_Outcome ?q_na_Outcome_winner ?q_na_Outcome_moment ?q_na_Outcome_sent ?q_xBadPart_L ?q_xBadPart_sa ?q_xBadPart_ex ?q_xBadPart_ty ?q_xBadPart_kC ?q_xBadPart_noA ?q_xBadPart_hg ?q_xBadPart_hk ?q_xBadPart_hd ?q_xBadPart_ha ?q_xBadPart_hm ?q_xBadPart_is ?q_xBadPart_ss ?q_xBadPart_w ?q_xBadBox_L ?q_xBadBox_sa ?q_xBadBox_ex ?q_xBadBox_ty ?q_xBadBox_kC ?q_xBadBox_noA ?q_xBadBox_hg ?q_xBadBox_hk ?q_xBadBox_hd ?q_xBadBox_ha ?q_xBadBox_hm ?q_xBadBox_is ?q_xBadBox_ss ?q_xBadBox_w ?q_xNoWay_L ?q_xNoWay_sa ?q_xNoWay_ex ?q_xNoWay_ty ?q_xNoWay_kC ?q_xNoWay_noA ?q_xNoWay_hg ?q_xNoWay_hk ?q_xNoWay_hd ?q_xNoWay_ha ?q_xNoWay_hm ?q_xNoWay_is ?q_xNoWay_ss ?q_xNoWay_w ?q_xCannotWin_L ?q_xCannotWin_sa ?q_xCannotWin_ex ?q_xCannotWin_ty ?q_xCannotWin_kC ?q_xCannotWin_noA ?q_xCannotWin_hg ?q_xCannotWin_hk ?q_xCannotWin_hd ?q_xCannotWin_ha ?q_xCannotWin_hm ?q_xCannotWin_is ?q_xCannotWin_ss ?q_xCannotWin_w ?q_xw_i ?q_xw_t ?q_xw_b
    (case q_g_BadPart => k_is)
    (case q_g_BadBox => k_is)
    (case q_g_NoWay => k_is)
    (case q_g_CannotWin => k_is)
    (case q_g_WholeError => k_is)
    (case q_g_Way => k_is)
    (case q_g_Race => k_is)
    (case q_g_Outcome => k_is)
    (case q_a_is_integer => k_is)
    (case q_l_is_integer => k_is)
    (case q_c_is_integer => k_is)
    (case q_k_is_integer => k_is)
    (case q_a_is_between => k_is)
    (case q_l_is_between => k_is)
    (case q_c_is_between => k_is)
    (case q_k_is_between => k_is)
    (case q_a_is_index => k_is)
    (case q_l_is_index => k_is)
    (case q_c_is_index => k_is)
    (case q_k_is_index => k_is)
    (case q_a_is_list => k_is)
    (case q_l_is_list => k_is)
    (case q_c_is_list => k_is)
    (case q_k_is_list => k_is)
    (case q_a_is_list_of => k_is)
    (case q_l_is_list_of => k_is)
    (case q_c_is_list_of => k_is)
    (case q_k_is_list_of => k_is)
    (case q_a_is_tuple_of => k_is)
    (case q_l_is_tuple_of => k_is)
    (case q_c_is_tuple_of => k_is)
    (case q_k_is_tuple_of => k_is)
    (case q_a_are_rising_indexes => k_is)
    (case q_l_are_rising_indexes => k_is)
    (case q_c_are_rising_indexes => k_is)
    (case q_k_are_rising_indexes => k_is)
    (case q_a_is_lot => k_is)
    (case q_l_is_lot => k_is)
    (case q_c_is_lot => k_is)
    (case q_k_is_lot => k_is)
    (case q_a_greater => k_is)
    (case q_l_greater => k_is)
    (case q_c_greater => k_is)
    (case q_k_greater => k_is)
    (case q_a_is_begin => k_is)
    (case q_l_is_begin => k_is)
    (case q_c_is_begin => k_is)
    (case q_k_is_begin => k_is)
    (case q_a_are_delays => k_is)
    (case q_l_are_delays => k_is)
    (case q_c_are_delays => k_is)
    (case q_k_are_delays => k_is)
    (case q_a_is_box => k_is)
    (case q_l_is_box => k_is)
    (case q_c_is_box => k_is)
    (case q_k_is_box => k_is)
    (case q_a_check_ways => k_is)
    (case q_l_check_ways => k_is)
    (case q_c_check_ways => k_is)
    (case q_k_check_ways => k_is)
    (case q_a_check_silent => k_is)
    (case q_l_check_silent => k_is)
    (case q_c_check_silent => k_is)
    (case q_k_check_silent => k_is)
    (case q_a_check_way => k_is)
    (case q_l_check_way => k_is)
    (case q_c_check_way => k_is)
    (case q_k_check_way => k_is)
    (case q_a_fits => k_is)
    (case q_l_fits => k_is)
    (case q_c_fits => k_is)
    (case q_k_fits => k_is)
    (case q_a_wrong_of => k_is)
    (case q_l_wrong_of => k_is)
    (case q_c_wrong_of => k_is)
    (case q_k_wrong_of => k_is)
    (case q_a_outcome_of => k_is)
    (case q_l_outcome_of => k_is)
    (case q_c_outcome_of => k_is)
    (case q_k_outcome_of => k_is)
    (case q_a_check_win => k_is)
    (case q_l_check_win => k_is)
    (case q_c_check_win => k_is)
    (case q_k_check_win => k_is)
    (case q_a_answer_at => k_is)
    (case q_l_answer_at => k_is)
    (case q_c_answer_at => k_is)
    (case q_k_answer_at => k_is)
    (case q_a_win_run => k_is)
    (case q_l_win_run => k_is)
    (case q_c_win_run => k_is)
    (case q_k_win_run => k_is)
    (case q_a_in_window => k_is)
    (case q_l_in_window => k_is)
    (case q_c_in_window => k_is)
    (case q_k_in_window => k_is)
    (case q_a_win_paper => k_is)
    (case q_l_win_paper => k_is)
    (case q_c_win_paper => k_is)
    (case q_k_win_paper => k_is)
    (case q_a_ways_by_end => k_is)
    (case q_l_ways_by_end => k_is)
    (case q_c_ways_by_end => k_is)
    (case q_k_ways_by_end => k_is)
    (case q_a_latest_paper => k_is)
    (case q_l_latest_paper => k_is)
    (case q_c_latest_paper => k_is)
    (case q_k_latest_paper => k_is)
    (case q_a_ends_at => k_is)
    (case q_l_ends_at => k_is)
    (case q_c_ends_at => k_is)
    (case q_k_ends_at => k_is)
    (case q_a_shows_win => k_is)
    (case q_l_shows_win => k_is)
    (case q_c_shows_win => k_is)
    (case q_k_shows_win => k_is)
    (case q_a_shows_never => k_is)
    (case q_l_shows_never => k_is)
    (case q_c_shows_never => k_is)
    (case q_k_shows_never => k_is)
    (case q_a_shows_latest => k_is)
    (case q_l_shows_latest => k_is)
    (case q_c_shows_latest => k_is)
    (case q_k_shows_latest => k_is)
    (case q_a_shows_unanswered => k_is)
    (case q_l_shows_unanswered => k_is)
    (case q_c_shows_unanswered => k_is)
    (case q_k_shows_unanswered => k_is)
    (case q_a__law_draw => k_is)
    (case q_l__law_draw => k_is)
    (case q_c__law_draw => k_is)
    (case q_k__law_draw => k_is)
    (case q_a__law_way => k_is)
    (case q_l__law_way => k_is)
    (case q_c__law_way => k_is)
    (case q_k__law_way => k_is)
    (case q_a__law_ways => k_is)
    (case q_l__law_ways => k_is)
    (case q_c__law_ways => k_is)
    (case q_k__law_ways => k_is)
    (case q_a__law_made => k_is)
    (case q_l__law_made => k_is)
    (case q_c__law_made => k_is)
    (case q_k__law_made => k_is)
    (case q_a__law_entries => k_is)
    (case q_l__law_entries => k_is)
    (case q_c__law_entries => k_is)
    (case q_k__law_entries => k_is)
    (case q_a__law_quiet => k_is)
    (case q_l__law_quiet => k_is)
    (case q_c__law_quiet => k_is)
    (case q_k__law_quiet => k_is)
    (case q_a__law_runs => k_is)
    (case q_l__law_runs => k_is)
    (case q_c__law_runs => k_is)
    (case q_k__law_runs => k_is)
    (case q_a__law_outcome => k_is)
    (case q_l__law_outcome => k_is)
    (case q_c__law_outcome => k_is)
    (case q_k__law_outcome => k_is)
    (case q_a__law_hurried => k_is)
    (case q_l__law_hurried => k_is)
    (case q_c__law_hurried => k_is)
    (case q_k__law_hurried => k_is)
    (case q_a__law_is_lot => k_is)
    (case q_l__law_is_lot => k_is)
    (case q_c__law_is_lot => k_is)
    (case q_k__law_is_lot => k_is)
    (case q_a__law_never => k_is)
    (case q_l__law_never => k_is)
    (case q_c__law_never => k_is)
    (case q_k__law_never => k_is)
    (case q_a__law_latest => k_is)
    (case q_l__law_latest => k_is)
    (case q_c__law_latest => k_is)
    (case q_k__law_latest => k_is)
    (case q_a__law_run_of => k_is)
    (case q_l__law_run_of => k_is)
    (case q_c__law_run_of => k_is)
    (case q_k__law_run_of => k_is)
    (case q_a__law_lot => k_is)
    (case q_l__law_lot => k_is)
    (case q_c__law_lot => k_is)
    (case q_k__law_lot => k_is)
    (case q_a__law_run => k_is)
    (case q_l__law_run => k_is)
    (case q_c__law_run => k_is)
    (case q_k__law_run => k_is)
    (case q_a__law_moment => k_is)
    (case q_l__law_moment => k_is)
    (case q_c__law_moment => k_is)
    (case q_k__law_moment => k_is)
    (case q_a__law_shown => k_is)
    (case q_l__law_shown => k_is)
    (case q_c__law_shown => k_is)
    (case q_k__law_shown => k_is)
    (case q_a__law_told_right => k_is)
    (case q_l__law_told_right => k_is)
    (case q_c__law_told_right => k_is)
    (case q_k__law_told_right => k_is)
    (case q_a__law_judged => k_is)
    (case q_l__law_judged => k_is)
    (case q_c__law_judged => k_is)
    (case q_k__law_judged => k_is)
    (case q_a_law => k_is)
    (case q_l_law => k_is)
    (case q_c_law => k_is)
    (case q_k_law => k_is)
    (case q_a_BadPart_init => k_is)
    (case q_i_BadPart_init => k_is)
    (case q_l_BadPart_init => k_is)
    (case q_c_BadPart_init => k_is)
    (case q_k_BadPart_init => k_is)
    (case q_a_BadBox_init => k_is)
    (case q_i_BadBox_init => k_is)
    (case q_l_BadBox_init => k_is)
    (case q_c_BadBox_init => k_is)
    (case q_k_BadBox_init => k_is)
    (case q_a_NoWay_init => k_is)
    (case q_i_NoWay_init => k_is)
    (case q_l_NoWay_init => k_is)
    (case q_c_NoWay_init => k_is)
    (case q_k_NoWay_init => k_is)
    (case q_a_CannotWin_init => k_is)
    (case q_i_CannotWin_init => k_is)
    (case q_l_CannotWin_init => k_is)
    (case q_c_CannotWin_init => k_is)
    (case q_k_CannotWin_init => k_is)
    (case q_a_Way_init => k_is)
    (case q_i_Way_init => k_is)
    (case q_l_Way_init => k_is)
    (case q_c_Way_init => k_is)
    (case q_k_Way_init => k_is)
    (case q_a_Way_window => k_is)
    (case q_i_Way_window => k_is)
    (case q_l_Way_window => k_is)
    (case q_c_Way_window => k_is)
    (case q_k_Way_window => k_is)
    (case q_a_Race_init => k_is)
    (case q_i_Race_init => k_is)
    (case q_l_Race_init => k_is)
    (case q_c_Race_init => k_is)
    (case q_k_Race_init => k_is)
    (case q_a_Race_planned => k_is)
    (case q_i_Race_planned => k_is)
    (case q_l_Race_planned => k_is)
    (case q_c_Race_planned => k_is)
    (case q_k_Race_planned => k_is)
    (case q_a_Race_hurried => k_is)
    (case q_i_Race_hurried => k_is)
    (case q_l_Race_hurried => k_is)
    (case q_c_Race_hurried => k_is)
    (case q_k_Race_hurried => k_is)
    (case q_a_Race_can_win => k_is)
    (case q_i_Race_can_win => k_is)
    (case q_l_Race_can_win => k_is)
    (case q_c_Race_can_win => k_is)
    (case q_k_Race_can_win => k_is)
    (case q_a_Race_latest => k_is)
    (case q_i_Race_latest => k_is)
    (case q_l_Race_latest => k_is)
    (case q_c_Race_latest => k_is)
    (case q_k_Race_latest => k_is)
    (case q_a_Outcome_init => k_is)
    (case q_i_Outcome_init => k_is)
    (case q_l_Outcome_init => k_is)
    (case q_c_Outcome_init => k_is)
    (case q_k_Outcome_init => k_is)
    (case q_d_T => k_is)
    (case q_d_0 => k_is)
    (case q_n_isinstance => k_is)
    (case q_n_int => k_is)
    (case q_n_bool => k_is)
    (case q_n_list => k_is)
    (case q_n_tuple => k_is)
    (case q_n_len => k_is)
    (case q_n_range => k_is)
    (case q_n_max => k_is)
    (case q_n_sum => k_is)
    (case q_n_zip => k_is)
    (case q_n_set => k_is)
    (case q_n_enumerate => k_is)
    (case q_n_all => k_is)
    (case q_n_sorted => k_is)
    (case q_v_MOST_BEGIN => k_is)
    (case q_v_MOST_DELAY => k_is)
    (case q_v_MOST_BOXES => k_is)
    (case q_v_MOST_KEEP => k_is)
    (case q_v_MOST_WAYS => k_is)
    (case q_v_MOST_SILENT => k_is)
    (case q_s_hn => k_is)
    (case q_s_tk => k_is)
    (case q_pg_Way => k_is)
    (case q_hd_Way => k_is)
    (case q_po_Way => k_is)
    (case q_sa_Way => k_is)
    (case q_ha_Way => k_is)
    (case q_hm_Way => k_is)
    (case q_ne_Way => k_is)
    (case q_is_Way => k_is)
    (case q_ty_Way => k_is)
    (case q_tup_Way => k_is)
    (case q_lst_Way => k_is)
    (case q_int_Way => k_is)
    (case q_str_Way => k_is)
    (case q_mk_Way => k_is)
    (case q_kc_Way => k_is)
    (case q_na_Way_begin => k_is)
    (case q_na_Way_least => k_is)
    (case q_na_Way_most => k_is)
    (case q_na_Way_boxes => k_is)
    (case q_pg_Race => k_is)
    (case q_hd_Race => k_is)
    (case q_po_Race => k_is)
    (case q_sa_Race => k_is)
    (case q_ha_Race => k_is)
    (case q_hm_Race => k_is)
    (case q_ne_Race => k_is)
    (case q_is_Race => k_is)
    (case q_ty_Race => k_is)
    (case q_tup_Race => k_is)
    (case q_lst_Race => k_is)
    (case q_int_Race => k_is)
    (case q_str_Race => k_is)
    (case q_mk_Race => k_is)
    (case q_kc_Race => k_is)
    (case q_na_Race_ways => k_is)
    (case q_na_Race_silent => k_is)
    (case q_pg_Outcome => k_is)
    (case q_hd_Outcome => k_is)
    (case q_po_Outcome => k_is)
    (case q_sa_Outcome => k_is)
    (case q_ha_Outcome => k_is)
    (case q_hm_Outcome => k_is)
    (case q_ne_Outcome => k_is)
    (case q_is_Outcome => k_is)
    (case q_ty_Outcome => k_is)
    (case q_tup_Outcome => k_is)
    (case q_lst_Outcome => k_is)
    (case q_int_Outcome => k_is)
    (case q_str_Outcome => k_is)
    (case q_mk_Outcome => k_is)
    (case q_kc_Outcome => k_is)
    (case q_na_Outcome_winner => k_is)
    (case q_na_Outcome_moment => k_is)
    (case q_na_Outcome_sent => k_is)
    (case q_xBadPart_L => k_is)
    (case q_xBadPart_sa => k_is)
    (case q_xBadPart_ex => k_is)
    (case q_xBadPart_ty => k_is)
    (case q_xBadPart_kC => k_is)
    (case q_xBadPart_noA => k_is)
    (case q_xBadPart_hg => k_is)
    (case q_xBadPart_hk => k_is)
    (case q_xBadPart_hd => k_is)
    (case q_xBadPart_ha => k_is)
    (case q_xBadPart_hm => k_is)
    (case q_xBadPart_is => k_is)
    (case q_xBadPart_ss => k_is)
    (case q_xBadPart_w => k_is)
    (case q_xBadBox_L => k_is)
    (case q_xBadBox_sa => k_is)
    (case q_xBadBox_ex => k_is)
    (case q_xBadBox_ty => k_is)
    (case q_xBadBox_kC => k_is)
    (case q_xBadBox_noA => k_is)
    (case q_xBadBox_hg => k_is)
    (case q_xBadBox_hk => k_is)
    (case q_xBadBox_hd => k_is)
    (case q_xBadBox_ha => k_is)
    (case q_xBadBox_hm => k_is)
    (case q_xBadBox_is => k_is)
    (case q_xBadBox_ss => k_is)
    (case q_xBadBox_w => k_is)
    (case q_xNoWay_L => k_is)
    (case q_xNoWay_sa => k_is)
    (case q_xNoWay_ex => k_is)
    (case q_xNoWay_ty => k_is)
    (case q_xNoWay_kC => k_is)
    (case q_xNoWay_noA => k_is)
    (case q_xNoWay_hg => k_is)
    (case q_xNoWay_hk => k_is)
    (case q_xNoWay_hd => k_is)
    (case q_xNoWay_ha => k_is)
    (case q_xNoWay_hm => k_is)
    (case q_xNoWay_is => k_is)
    (case q_xNoWay_ss => k_is)
    (case q_xNoWay_w => k_is)
    (case q_xCannotWin_L => k_is)
    (case q_xCannotWin_sa => k_is)
    (case q_xCannotWin_ex => k_is)
    (case q_xCannotWin_ty => k_is)
    (case q_xCannotWin_kC => k_is)
    (case q_xCannotWin_noA => k_is)
    (case q_xCannotWin_hg => k_is)
    (case q_xCannotWin_hk => k_is)
    (case q_xCannotWin_hd => k_is)
    (case q_xCannotWin_ha => k_is)
    (case q_xCannotWin_hm => k_is)
    (case q_xCannotWin_is => k_is)
    (case q_xCannotWin_ss => k_is)
    (case q_xCannotWin_w => k_is)
    (case q_xw_i => k_is)
    (case q_xw_t => k_is)
    (case q_xw_b => k_is)
