import PyProof.Rows.All
import Wide.All
import OpenK.AllK
import Wide.FinOn
import PyProof.EqAt
import PyProof.EqKinds
import PyProof.TupleCall
import HandS.Base
import HandS.Call
import HandS.List
import HandS.Comp
import HandS.Ends
import HandS.Words
import HandS.WordsList
import HandS.Exc
import HandS.ExcInit
import HandS.ExcIs
import HandS.OwnEq
import HandS.IsInst
import HandS.ExcOwn
import HandS.ExcField
import HandS.WordsExc
import HandS.TryOnly
import HandS.TryMany
import HandS.CallSlots
import HandS.Wide
import HandS.Codes
import KE.KTupSum
import PyProof.ListRange
import KE.GoesEnum
import HandS.Iter
import HandS.Walk
import HandS.HotCalls
import KE.KEqNest
import HandS.MakeKwOnly
import HandS.TupAny
import HandS.Strs
import HandS.Deep
import HandS.Zip
import HandS.Star
import HandS.Conv
import HandS.IterVal
import HandS.ListItems
import KE.KDictZip
import KE.DataFind
import HandS.GenCall
import HandS.GenList
import KE.DataMinMax
import HandS.SortKw
import KE.KExcInit
import HandS.SetFor
import HandS.Style
import KE.GoesZip
import KE.GoesMore
import HandS.Remove
import HandS.SlotsOwn
import KE.GoesEnumKw
import PyProof.Rows.CallKwBuiltin
import HandS.Defaults
import HandS.Evl
import HandS.Lambda
import HandS.EndTab
import PySem.Challenge.RW_wholeline_k31_whole_greatest_gaps_of_roa
import HandS.NoneIn
set_option Elab.async false
set_option maxRecDepth 100000
set_option maxHeartbeats 4000000
namespace PySem.W
open PySem PySem.Calls PyProof.Rows
section
variable {prog : Program} {w : World} {A : Around} {E : Value → Shared → Prop} {s : Shared} {K : Frag} {x C L f : Addr} {h₀ : Heap} {m : Str → Option Value} {ox : Obj} {od : Option Obj} {b tb : Value}
theorem objNe_K {Q : Fin → Shared → Prop} (hu : A.units < cLine) (X : K.In s.heap) (I : InstAt s.heap x ox C od)
    (hs : findIn K (.ref C) "__eq__" = some (some (.ref f))) (hf : isFn K (.ref f) = true)
    (h : wpAny (model prog w) A (call (.ref f) [.ref x, b]) (fun v s' => ∃ r, v = .bool r ∧ Q (.done (.ret (.bool (!r)))) s') E s) :
    wpAny (model prog w) A (Builtin.«object.__ne__» ⟨[.ref x, b], []⟩) Q E s := by
  obtain ⟨hp, g, d, tk, os⟩ := s
  unfold Builtin.«object.__ne__»
  repeat (first
    | with_reducible refine wpAny_cRoomFor hu ?_
    | (refine wpAny_bind (m := callSpecialIfBound? (.ref x) (Str.ofString "__eq__") [b])
        (ifBound_K X I hs hf (wpAny_mono h (fun r s' hr => by
          obtain ⟨b, rfl, hq⟩ := hr
          repeat (first | exact hq | exact wpAny_pure hq | exact wpAny_truthy_bool hq | (refine wpAny_bind (m := truthy (.bool _)) (wpAny_truthy_bool ?_)) | wp_step)) fun _ _ e => e)))
    | wp_step)
theorem cmpNe_K {Q : Value → Shared → Prop} (hu : A.units + 1 < cLine) (F : Fr h₀ L s.heap m) (X₀ : K.In h₀) (I : InstAt s.heap x ox C od) (hb : Looks (model prog w) s.heap (typeOf b) tb) (hn : notFirst K C tb = true)
    (hne : findIn K (.ref C) "__ne__" = some (some (.builtin "object.__ne__"))) (hm : mroIn K C (.type "object") = some true)
    (hs : findIn K (.ref C) "__eq__" = some (some (.ref f))) (hf : isFn K (.ref f) = true)
    (h : wpAny (model prog w) A.in1 (call (.ref f) [.ref x, b]) (fun v s' => ∃ r, v = .bool r ∧ Q (.bool (!r)) s') E s) : wpAny (model prog w) A (richCompare .NotEq (.ref x) b) Q E s := by
  have X := X₀.keeps F.keep
  have sub : Looks (model prog w) s.heap (isInstance (.ref x) (.type "object")) true := I.type.andThen (looks_mroIn X hm)
  have one : wpAny (model prog w) A (tryCompare (.ref x) "__ne__" b) (fun r s' => ∃ v, r = some v ∧ Q v s') E s := by
    unfold tryCompare
    refine wpAny_bind ?_
    simp only [callSpecialIfBound?, bindSpecialIfBound?]
    refine wpAny_holding (wpAny_bind (wpAny_bind (wpAny_bind (I.type.here ((looks_findIn X hne).here ?_)))))
    simp only [PySem.F.cmp_object.ne.bind]
    refine wpAny_bind (wpAny_askSetting (wpAny_ite ?_))
    have fin : wpAny (model prog w) A (call (.builtin "object.__ne__") ([.ref x] ++ [b]) >>= fun v => pure (some v)) (fun r s' => wpAny (model prog w) A (match r with
        | some .notImplemented | none => pure none
        | some v => pure (some v)) (fun r s' => ∃ v, r = some v ∧ Q v s') E s') E s := by
      refine wpAny_bind (wpAny_call (codeAny_call_builtin PySem.F.cmp_object.ne.plain PySem.F.cmpEntry_ne (check_slot PySem.F.cmpKind_ne PySem.F.cmpSplit_ne sub (PySem.F.cmpArgs_ne _ _)
        (objNe_K (A := A.in1) hu X I hs hf (wpAny_mono h (fun v s' hv => ?_) fun _ _ e => e)))))
      obtain ⟨r, rfl, hq⟩ := hv
      first | exact ⟨r, rfl, wpAny_pure (wpAny_pure ⟨_, rfl, hq⟩)⟩ | exact ⟨r, rfl, wpAny_pure ⟨_, rfl, hq⟩⟩
    split
    · repeat (first | exact fin | with_reducible refine wpAny_pure ?_ | with_reducible refine wpAny_bind ?_ | with_reducible refine wpAny_tryCatch ?_)
    · refine wpAny_tryCatch ?_
      repeat (first | exact fin | with_reducible refine wpAny_pure ?_ | with_reducible refine wpAny_bind ?_)
  unfold richCompare
  simp only [oneThing_ref]
  refine wpAny_holding (wpAny_bind (wpAny_cRoomFor (Nat.lt_of_succ_lt hu) ?_))
  refine wpAny_bind (I.type.here (wpAny_bind (hb.here ?_)))
  split
  · rename_i q
    have e : subIn K tb (.ref C) = some false := by
      rcases Bool.or_eq_true_iff.mp hn with e | e
      · rw [beq_iff_eq.mp e] at q; simp at q
      · exact beq_iff_eq.mp e
    refine wpAny_bind ((looks_subIn X e).here ?_)
    simp only [Bool.false_eq_true, if_false]
    refine wpAny_bind (wpAny_mono one (fun r s' z => ?_) fun _ _ e => e)
    obtain ⟨v, rfl, hq⟩ := z
    exact wpAny_pure hq
  · refine wpAny_bind (wpAny_pure ?_)
    simp only [Bool.false_eq_true, if_false]
    refine wpAny_bind (wpAny_mono one (fun r s' z => ?_) fun _ _ e => e)
    obtain ⟨v, rfl, hq⟩ := z
    exact wpAny_pure hq
end
end PySem.W

set_option Elab.async false
set_option maxRecDepth 100000
set_option maxHeartbeats 4000000
namespace L2
open PySem PySem.Spec PyProof.Rows
section
variable {X : Cx} {CX : CXT} {k : Nat} {f C : Addr} {fd : FuncData} {ps : List Str} {sp : Sp}
/-- the own method f, called at some frame below with room -/
theorem run_at {A : Around} {pins : List (Addr × Obj)} {σ : St} {H : Hp} {s : Shared} {Q : VK} {us : List Value} {vs : List V} (F : FnOk X.prog X.w X.K X.mg X.base CX k f fd ps sp) (hr : Room k A) (hA : A.frames = X.A.frames) (hb : Binds X.K fd ps []) (hx : Passes CX X E0)
    (I : Inv X pins σ H s) (r : Vals vs us) (h : sp vs H Q E0) : wpAny (model X.prog X.w) A (call (.ref f) us) (EP X pins σ Q) X.xe s := by
  have hl : us.length = ps.length := by rw [← r.length]; exact F.len _ _ _ _ h
  have e0 : Env0 X.prog X.w X.K X.mg X.base A X.stack s H := by
    have e := I.env0
    exact ⟨by rw [hA]; exact e.frames, e.mod, e.bs, e.bsz, e.funs, e.frf, e.hok, e.bare⟩
  refine wpAny_call (codeAny_mono (F.run A X.stack s H ⟨us, []⟩ us vs Q E0 hr e0 (by
    have := hb s us I.kIn (by simpa using hl)
    simpa using this) r h) fun r s' hq => ?_)
  cases r with
  | error e => exact hx pins σ H s e s' I hq
  | ok fl =>
    cases fl with
    | ret u => exact I.after hq
    | next => exact False.elim hq
    | brk => exact False.elim hq
    | cont => exact False.elim hq
/-- x == y, x an instance of the class at C, by its own ==; y anything whose type is known -/
def rEqO (K : PySem.W.Frag) (C : Addr) (sp : Sp) : R2 := fun x y H Q => ∃ a dx fs t, x = .ref a ∧ H a = some (.ins C dx fs) ∧ TyX K H y t ∧ PySem.W.notFirst K C t = true ∧ sp [x, y] H (fun v H' => ∃ b, v = .bl b ∧ Q (.bl b) H') E0
def rNeO (K : PySem.W.Frag) (C : Addr) (sp : Sp) : R2 := fun x y H Q => ∃ a dx fs t, x = .ref a ∧ H a = some (.ins C dx fs) ∧ TyX K H y t ∧ PySem.W.notFirst K C t = true ∧ sp [x, y] H (fun v H' => ∃ b, v = .bl b ∧ Q (.bl (!b)) H') E0
structure EqM (K : PySem.W.Frag) (C f : Addr) : Prop where
  eq : PySem.W.findIn K (.ref C) "__eq__" = some (some (.ref f))
  fn : PySem.W.isFn K (.ref f) = true
  ne : PySem.W.findIn K (.ref C) "__ne__" = some (some (.builtin "object.__ne__"))
  ob : PySem.W.mroIn K C (.type "object") = some true
theorem op_eqO (F : FnOk X.prog X.w X.K X.mg X.base CX k f fd ps sp) (M : EqM X.K C f) (hr : Room k X.A) (hb : Binds X.K fd ps []) (hx : Passes CX X E0) : OpR X (compareOp .Eq) (rEqO X.K C sp) := by
  intro pins s σ H x y v u Q I rx ry hq
  obtain ⟨a, dx, fs, t, rfl, ha, ty, hn, q⟩ := hq
  cases (show v = Value.ref a from rx)
  obtain ⟨P, Z, p, _⟩ := kit_of I ry ty
  obtain ⟨mA, J, _⟩ := ins_get I.hok ha
  obtain ⟨od, J, _⟩ := J.look
  obtain ⟨m, hF⟩ := I.fr
  show wpAny (model X.prog X.w) X.A (richCompare .Eq (.ref a) u) (EP X pins σ Q) X.xe s
  refine PySem.W.cmp_K (op := .Eq) (tb := t) hr.units0 hF I.ok.mod.kin J (Z.ty _ _ I.kIn p) hn M.eq M.fn ?_
  refine wpAny_mono (run_at (vs := [.ref a, y]) F hr rfl hb hx I (.cons rfl (.cons ry .nil)) q) (fun v' s' z => ?_) fun _ _ e => e
  obtain ⟨w', H', I', rv, b, rfl, q'⟩ := z
  cases rv
  exact ⟨.bl b, H', I', rfl, q'⟩
theorem op_neO (F : FnOk X.prog X.w X.K X.mg X.base CX k f fd ps sp) (M : EqM X.K C f) (hr : Room (k + 1) X.A) (hb : Binds X.K fd ps []) (hx : Passes CX X E0) : OpR X (compareOp .NotEq) (rNeO X.K C sp) := by
  intro pins s σ H x y v u Q I rx ry hq
  obtain ⟨a, dx, fs, t, rfl, ha, ty, hn, q⟩ := hq
  cases (show v = Value.ref a from rx)
  obtain ⟨P, Z, p, _⟩ := kit_of I ry ty
  obtain ⟨mA, J, _⟩ := ins_get I.hok ha
  obtain ⟨od, J, _⟩ := J.look
  obtain ⟨m, hF⟩ := I.fr
  show wpAny (model X.prog X.w) X.A (richCompare .NotEq (.ref a) u) (EP X pins σ Q) X.xe s
  refine PySem.W.cmpNe_K (tb := t) (by have := hr.units; omega) hF I.ok.mod.kin J (Z.ty _ _ I.kIn p) hn M.ne M.ob M.eq M.fn ?_
  refine wpAny_mono (run_at (vs := [.ref a, y]) F hr.in1 rfl hb hx I (.cons rfl (.cons ry .nil)) q) (fun v' s' z => ?_) fun _ _ e => e
  obtain ⟨w', H', I', rv, b, rfl, q'⟩ := z
  cases rv
  exact ⟨b, rfl, .bl (!b), H', I', rfl, q'⟩
/-- len(o), o an instance of the class at C with an own __len__ -/
def rLenO (C : Addr) (sp : Sp) : List V → Hp → VK → Prop := fun xs H Q => ∃ a dx fs, xs = [.ref a] ∧ H a = some (.ins C dx fs) ∧ sp [.ref a] H (fun v H' => ∃ n : Int, v = .int n ∧ (0 ≤ n ∧ n < 2 ^ 63) ∧ Q (.int n) H') E0
theorem call_lenO (F : FnOk X.prog X.w X.K X.mg X.base CX k f fd ps sp) (hs : PySem.W.findIn X.K (.ref C) "__len__" = some (some (.ref f))) (hf : PySem.W.isFn X.K (.ref f) = true) (hr : Room (k + 1) X.A) (hb : Binds X.K fd ps []) (hx : Passes CX X E0) :
    CallR X (.builtin "len") (rLenO C sp) := by
  intro pins s σ H xs us Q I r h
  obtain ⟨a, dx, fs, rfl, ha, q⟩ := h
  cases r with
  | cons rx rr =>
    rename_i u us'
    cases rr
    cases (show u = Value.ref a from rx)
    obtain ⟨mA, J, _⟩ := ins_get I.hok ha
    obtain ⟨od, J, _⟩ := J.look
    obtain ⟨m, hF⟩ := I.fr
    refine PySem.W.len_K hF I.ok.mod.kin J hs hf ?_
    refine wpAny_mono (run_at (vs := [.ref a]) F hr.in1 rfl hb hx I (.cons rfl .nil) q) (fun v' s' z => ?_) fun _ _ e => e
    obtain ⟨w', H', I', rv, n, rfl, hn, q'⟩ := z
    obtain ⟨t, rfl⟩ := (show ∃ t, v' = Value.int n t from rv)
    exact ⟨hn, .int n, H', I'.tok _, ⟨_, rfl⟩, q'⟩
end
end L2

set_option Elab.async false
set_option maxRecDepth 100000
set_option maxHeartbeats 4000000
namespace PySem.W
open PySem PySem.Spec PySem.Calls PyProof.Rows
section
variable {K : Frag} {C : Addr}
theorem findObj_dat {od : Option Obj} {name : Str} {a g : Value} (hc : (clsIn K C).isSome = true) (ha : findIn K (.ref C) name = some (some a)) (hg : specialIn K a "__get__" = some (some g)) (ht : takesIn K a = some true) :
    findObj K C od name = some (.bind g a) := by
  obtain ⟨cd, hc⟩ := Option.isSome_iff_exists.mp hc
  simp [findObj, hc, ha, hg, ht]
variable {prog : Program} {w : World} {A : Around} {E : Value → Shared → Prop} {s : Shared} {x D : Addr} {ox : Obj}
theorem kin_classD {od : Option Obj} {Q : Option Value → Shared → Prop} (T : L2.ExcC K D)
    (X : K.In s.heap) (I : InstAt s.heap x ox D od) (h : Q (some (.ref D)) { s with toks := s.toks + 1 }) : wpAny (model prog w) A (getAttr? (.ref x) "__class__") Q E s := by
  have hf : findObj K D od "__class__" = some (.bind (.builtin "getset_descriptor.__get__") (.builtin "object.__class__")) :=
    findObj_dat (by obtain ⟨cd, hc, _⟩ := any_some T.hd; rw [hc]; rfl) T.ha T.hn T.ht
  obtain ⟨hp, g, d, t, os⟩ := s
  have L0 := I.type (M := model prog w)
  have L1 := looks_findIn (M := model prog w) X T.hg
  have L2 := looks_findIn (M := model prog w) X T.hk
  have L3 := looks_find (M := model prog w) X I hf
  have sub : Looks (model prog w) hp (isInstance (.ref x) (.type "BaseException")) true := L0.andThen (looks_subIn X T.hs)
  have hx0 : (false && onTheHeap (Value.builtin "BaseException.__getattribute__")) = false := rfl
  have hx2 : (Value.builtin "BaseException.__getattribute__" == Value.builtin "object.__getattribute__") = false := by decide +kernel
  have hx1 : (onTheHeap (Value.ref D) && Value.builtin "BaseException.__getattribute__" == Value.builtin "object.__getattribute__") = false := by rw [hx2]; rfl
  unfold getAttr? getAttrBy? getAttrBy
  refine wpAny_bind (wpAny_mkText (wpAny_bind (wpAny_attempt (wpAny_holding (wpAny_bind (L0.at (wpAny_bind (L1.at ?_))))))))
  show wpAny _ _ (if (onTheHeap (Value.ref D) && Value.builtin "BaseException.__getattribute__" == Value.builtin "object.__getattribute__") = true then _ else _) _ _ _
  rw [hx1, if_neg Bool.false_ne_true]
  unfold getAttrByItsOwn hookBefore
  refine wpAny_bind ?_
  rw [if_pos (show onTheHeap (Value.ref D) = true from rfl)]
  refine L2.at ?_
  refine wpAny_bind (wpAny_attempt (wpAny_holding ?_))
  unfold callGetattribute
  rw [hx0, if_neg Bool.false_ne_true]
  unfold boundAndCalled
  rw [PySem.F.excAttr_ValueError.ga.bind (.ref x)]
  refine wpAny_bind (wpAny_pure ?_)
  show wpAny _ _ (call (.builtin "BaseException.__getattribute__") [.ref x, .str "__class__" t]) _ _ _
  refine wpAny_call (codeAny_call_builtin PySem.F.excAttr_ValueError.ga.plain PySem.F.entry_bexc_ga ?_)
  refine @check_slot (model prog w) _ _ ⟨hp, g, d, t + 1, os⟩ "BaseException.__getattribute__" "BaseException" "__getattribute__" (.ref x) [.str "__class__" t] [] _ (by decide +kernel) (by decide +kernel) sub (PySem.F.args_bexc_ga (.ref x) (.str "__class__" t)) ?_
  unfold Builtin.«object.__getattribute__»
  refine wpAny_bind (wpAny_of_eq (a := ((Value.ref x : Value), [Value.str "__class__" t])) (by first | rfl | (simp only [slotArgs]; rfl)) ?_)
  refine wpAny_bind (wpAny_pure (wpAny_bind (L0.at (wpAny_bind (L3.at ?_)))))
  show wpAny _ _ (holding [Value.builtin "object.__class__"] (call (.builtin "getset_descriptor.__get__") [.builtin "object.__class__", .ref x, .ref D]) >>= ret) _ _ _
  refine wpAny_bind (wpAny_holding (wpAny_call (class_get (s := ⟨hp, g, d, t + 1, os⟩) (ox := ox) (od := od) X I T.hm ?_)))
  refine wpAny_pure ?_
  show wpAny _ _ (handedOut (.ref D)) _ _ _
  rw [handedOut_of (v := .ref D) rfl]
  first
    | exact wpAny_pure (wpAny_pure h)
    | exact wpAny_pure h
    | exact wpAny_pure (wpAny_bind (wpAny_pure (wpAny_pure h)))
theorem kitx_excD (T : L2.ExcC K D) : KitX K (.ref x) (.ref D) (fun h => ∃ od, InstAt h x ox D od) where
  ty := fun _ _ _ I => by
    obtain ⟨_, I⟩ := I
    exact I.type
  it := fun M h X _ => by
    obtain ⟨cdD, hcD, _⟩ := any_some T.hd
    unfold clsIn at hcD
    split at hcD
    · rename_i c' d' cd' sl' ho
      intro A' Q' E' s' k q
      unfold isType loadHead
      exact wpAny_bind (wpAny_loadPart (k _ _ (X _ _ ho)) (wpAny_pure q))
    · cases hcD
  ne := fun h tp dd its n sl X htp => by
    obtain ⟨cdD, hcD, _⟩ := any_some T.hd
    refine Bool.eq_false_iff.mpr fun q => ?_
    have e : D = tp := Value.ref.inj (beq_iff_eq.mp q)
    subst e
    unfold clsIn at hcD
    split at hcD
    · rename_i c' d' cd' sl' ho
      have z := (X _ _ ho).symm.trans htp
      cases z
    · cases hcD
  ca := fun X I k => by
    obtain ⟨_, I⟩ := I
    exact kin_classD T X I k
end
end PySem.W
namespace L2
open PySem PySem.Spec PyProof.Rows
section
variable {X : Cx}
/-- isinstance(e, c), e the exception that the suite holds, with a dict or without -/
theorem call_isED {a D : Addr} {d : Option Addr} {oe : Obj} {pn : List (Addr × Obj)} (C : ExcC X.K D) (hz : Zc (.ref D) d oe) (hf : ∃ vs, oe.data = .fields vs) (hd : ∀ (pins : List (Addr × Obj)) (σ : St) (H : Hp) (s : Shared), Inv (X.suite a ((a, oe) :: pn)) pins σ H s → ∀ dd, d = some dd → ∃ od, s.heap.get? dd = some od) :
    CallR (X.suite a ((a, oe) :: pn)) (.builtin "isinstance") (rIsE X.K D a) := by
  intro pins s σ H xs us Q I r h
  obtain ⟨c, cv, b, rfl, hcv, e, q⟩ := h
  cases r with
  | cons rx rr =>
    cases rr with
    | cons rt rr =>
      cases rr
      cases rx
      have ec := hcv _ rt
      subst ec
      obtain ⟨hget, _⟩ := I.pin (a, oe) (List.mem_append.mpr (.inl List.mem_cons_self))
      obtain ⟨vs, hv⟩ := hf
      have J : ∃ od, PySem.W.InstAt s.heap a oe D od := by
        have hd' := hd pins σ H s I
        obtain ⟨oc, od, oda, osl⟩ := oe
        obtain ⟨h1, h2⟩ := hz
        dsimp only at h1 h2 hv
        subst h1 h2 hv
        cases od with
        | none => exact ⟨none, hget, rfl, rfl, trivial⟩
        | some dd =>
          obtain ⟨o, ho⟩ := hd' dd rfl
          exact ⟨some o, hget, rfl, rfl, ho⟩
      exact PySem.W.kia_one (PySem.W.kitx_excD C) I.kIn J e (fun z => nomatch z) fun tk => ⟨.bl b, H, I.kept (t' := tk) fun _ _ z => z, rfl, q⟩
/-- the same where the dict is tracked: the reading asks it -/
def rIsED (K : PySem.W.Frag) (D a : Addr) (cls : Value) (d : Option Addr) : List V → Hp → VK → Prop := fun xs H Q => cls = .ref D ∧ (∀ dd, d = some dd → ∃ fs, H dd = some (.xd fs)) ∧ ∃ (c : V) (cv : Value) (b : Bool), xs = [.ref a, c] ∧ (∀ u, RelV c u → u = cv) ∧ PySem.W.kitOne K (.ref D) cv = some b ∧ Q (.bl b) H
theorem call_isEX {a D : Addr} {cls : Value} {d : Option Addr} {oe : Obj} {pn : List (Addr × Obj)} (C : ExcC X.K D) (hz : Zc cls d oe) (hf : ∃ vs, oe.data = .fields vs) : CallR (X.suite a ((a, oe) :: pn)) (.builtin "isinstance") (rIsED X.K D a cls d) := by
  intro pins s σ H xs us Q I r h
  obtain ⟨ec0, hdd, c, cv, b, rfl, hcv, e, q⟩ := h
  subst ec0
  cases r with
  | cons rx rr =>
    cases rr with
    | cons rt rr =>
      cases rr
      cases rx
      have ec := hcv _ rt
      subst ec
      obtain ⟨hget, _⟩ := I.pin (a, oe) (List.mem_append.mpr (.inl List.mem_cons_self))
      obtain ⟨vs, hv⟩ := hf
      have J : ∃ od, PySem.W.InstAt s.heap a oe D od := by
        obtain ⟨oc, od, oda, osl⟩ := oe
        obtain ⟨h1, h2⟩ := hz
        dsimp only at h1 h2 hv
        subst h1 h2 hv
        cases od with
        | none => exact ⟨none, hget, rfl, rfl, trivial⟩
        | some dd =>
          obtain ⟨fs, hfs⟩ := hdd dd rfl
          obtain ⟨mA, hns, _⟩ := (show ObjOk X.prog X.w H s.heap dd (.xd fs) from I.hok dd _ hfs)
          obtain ⟨od, ho, _⟩ := lookIn_ns hns
          exact ⟨some od, hget, rfl, rfl, ho⟩
      exact PySem.W.kia_one (PySem.W.kitx_excD C) I.kIn J e (fun z => nomatch z) fun tk => ⟨.bl b, H, I.kept (t' := tk) fun _ _ z => z, rfl, q⟩
end
section
variable {X : Cx} {CX : CXT} {k : Nat} {f C : Addr} {fd : FuncData} {ps : List Str} {sp : Sp} {dvs : List V} {ds : List Value} {E : St → XK} {x m : Str} {p pos apos : Pos} {e o : Expr} {es : List Expr} {ta : TE} {t : TA}
/-- C(e, ..) where what is raised is wished for at the slots as they stand -/
def tMakeS (C : Addr) (sp : Sp) (dvs : List V) (E : St → XK) (t : TA) : TE := fun σ H Q => t σ H fun vs H1 => ∀ x dx, H1 x = none → H1 dx = none → dx ≠ x →
  sp (.ref x :: (vs ++ dvs)) (upd (upd H1 dx (.own x)) x (.ins C dx [])) (fun v H2 => v = .non ∧ Q (.ref x) H2) (fun cls d H2 => E σ cls d H2)
theorem run_makeS {pins : List (Addr × Obj)} {σ : St} {H : Hp} {s : Shared} {Q : VK} {us : List Value} {vs : List V} (M : Mk X.K C f) (F : FnOk X.prog X.w X.K X.mg X.base CX k f fd ps sp) (hr : Room (k + 1) X.A) (hb : Binds X.K fd ps ds) (hd : Vals dvs ds)
    (hx : PassesAt CX X σ (E σ)) (I : Inv X pins σ H s) (r : Vals vs us)
    (h : ∀ x dx, H x = none → H dx = none → dx ≠ x → sp (.ref x :: (vs ++ dvs)) (upd (upd H dx (.own x)) x (.ins C dx [])) (fun v H2 => v = .non ∧ Q (.ref x) H2) (E σ)) :
    wpAny (model X.prog X.w) X.A (call (.ref C) us) (EP X pins σ Q) X.xe s := by
  have hq := h (s.heap.objs.size + 1) s.heap.objs.size (I.hok.fresh (Nat.le_succ _)) (I.hok.fresh (Nat.le_refl _)) (Nat.ne_of_lt (Nat.lt_succ_self _))
  have I2 := Inv.made (C := C) I
  have r2 : Vals (V.ref (s.heap.objs.size + 1) :: (vs ++ dvs)) (Value.ref (s.heap.objs.size + 1) :: (us ++ ds)) := .cons rfl (r.append hd)
  have hl : (Value.ref (s.heap.objs.size + 1) :: us ++ ds).length = ps.length := by
    have e := r2.length
    rw [F.len _ _ _ _ hq] at e
    exact e.symm
  refine wpAny_call (make_map (f := f) I.kIn M.makes M.init (beq_iff_eq.mp M.fn) (codeAny_mono (F.run _ X.stack _ _ ⟨Value.ref (s.heap.objs.size + 1) :: us, []⟩ (Value.ref (s.heap.objs.size + 1) :: (us ++ ds)) _ _ (E σ) (hr.make C us [])
    (I2.env0.make C us []) (hb _ (Value.ref (s.heap.objs.size + 1) :: us) I2.kIn hl) r2 hq) fun r s' hq' => ?_))
  cases r with
  | error e => exact hx pins _ _ e s' I2 hq'
  | ok fl =>
    cases fl with
    | ret u =>
      obtain ⟨v, H', I3, rv, ev, q3⟩ := I2.after hq'
      subst ev
      exact ⟨rv, ⟨V.ref (s.heap.objs.size + 1), H', I3, rfl, q3⟩⟩
    | next => exact False.elim hq'
    | brk => exact False.elim hq'
    | cont => exact False.elim hq'
theorem pe_makeS (M : Mk X.K C f) (F : FnOk X.prog X.w X.K X.mg X.base CX k f fd ps sp) (hr : Room (k + 1) X.A) (hg : Gl X x) (hm : X.mg x = some (.ref C)) (hb : Binds X.K fd ps ds) (hd : Vals dvs ds) (hx : ∀ σ, PassesAt CX X σ (E σ))
    (ha : PA X (e :: es) t) (hdb : (x == ("__debug__" : Str)) = false := by decide) (he : starEach (e :: es) X.env = (false, eval e X.env) :: starEach es X.env := by rfl) (hpl : (backTo pos (starEach es X.env)).any (·.1) = false := by rfl) :
    PE X (.Call (.Name x p) (e :: es) [] pos) (tMakeS C sp dvs E t) := by
  refine ⟨fun pins s σ H Q I h => ?_⟩
  refine wpAny_Call_Name_kw (ld_glob I hg hm ?_ hdb)
  refine PySem.W.callWith_K (h₀ := X.base) I.ok.mod.kin M.kp (thn (ha.run pos pins s σ H _ I h) fun us s1 ⟨vs, H1, I1, r, q⟩ => ⟨I1.kIn, ?_⟩) he hpl
  exact run_makeS M F hr hb hd (hx σ) I1 r q
/-- o.m(e, ..) | o.m() likewise -/
def tMethSD (C : Addr) (m : Str) (sp : Sp) (dvs : List V) (E : St → XK) (ta : TE) (t : TA) : TE := fun σ H Q => ta σ H fun x H1 => ∃ a dx fs, x = .ref a ∧ H1 a = some (.ins C dx fs) ∧ fs.lookup m = none ∧
  t σ H1 fun vs H2 => sp (x :: (vs ++ dvs)) H2 Q (E σ)
theorem pe_methSD {pl : Sem Bool} (he : PE X o ta) (c : Cls X.K C) (hm : Meth X.K C m f) (F : FnOk X.prog X.w X.K X.mg X.base CX k f fd ps sp) (hr : Room k X.A) (hb : Binds X.K fd ps ds) (hd : Vals dvs ds) (hx : ∀ σ, PassesAt CX X σ (E σ)) (ha : PA X (e :: es) t)
    (hst : starEach (e :: es) X.env = (false, eval e X.env) :: starEach es X.env := by rfl) (hpl : (backTo pos (starEach es X.env)).any (·.1) = false := by rfl)
    (ht : eval (.Call (.Attribute o m apos) (e :: es) [] pos) X.env = (do
      let ov ← eval o X.env
      standAt apos.atName
      let (f, first) ← holding [ov] (getMethod ov m pl)
      callWith pos f first (backTo pos (starEach (e :: es) X.env)) (backToKw pos (keywordEach [] X.env))) := by rfl) :
    PE X (.Call (.Attribute o m apos) (e :: es) [] pos) (tMethSD C m sp dvs E ta t) := by
  refine ⟨fun pins s σ H Q I h => ?_⟩
  refine PySem.W.methodCall_KW (pl := pl) (thn (he.run pins s σ H _ I h) fun u s1 ⟨x, H1, I1, rx, a, dx, fs, ex, ea, l, q⟩ => ?_) ht
  subst ex
  obtain rfl : u = Value.ref a := rx
  refine getmeth_ok I1 ea c hm l ?_
  refine PySem.W.callWith_K (first := [.ref a]) (h₀ := X.base) I.ok.mod.kin hm.kp (thn (ha.run pos pins s1 σ H1 _ I1 q) fun us s2 ⟨vs, H2, I2, r, q2⟩ => ⟨I2.kIn, ?_⟩) hst hpl
  exact run_fnSD (us := .ref a :: us) (vs := .ref a :: vs) F hr hb hd (hx σ) I2 (.cons rfl r) q2
theorem pe_methSD0 {pl : Sem Bool} (he : PE X o ta) (c : Cls X.K C) (hm : Meth X.K C m f) (F : FnOk X.prog X.w X.K X.mg X.base CX k f fd ps sp) (hr : Room k X.A) (hb : Binds X.K fd ps ds) (hd : Vals dvs ds) (hx : ∀ σ, PassesAt CX X σ (E σ))
    (ht : eval (.Call (.Attribute o m apos) [] [] pos) X.env = (do
      let ov ← eval o X.env
      standAt apos.atName
      let (f, first) ← holding [ov] (getMethod ov m pl)
      callWith pos f first (backTo pos (starEach [] X.env)) (backToKw pos (keywordEach [] X.env))) := by rfl) :
    PE X (.Call (.Attribute o m apos) [] [] pos) (tMethSD C m sp dvs E ta tNil) := by
  refine ⟨fun pins s σ H Q I h => ?_⟩
  refine PySem.W.methodCall_KW (pl := pl) (thn (he.run pins s σ H _ I h) fun u s1 ⟨x, H1, I1, rx, a, dx, fs, ex, ea, l, q⟩ => ?_) ht
  subst ex
  obtain rfl : u = Value.ref a := rx
  refine getmeth_ok I1 ea c hm l ?_
  exact PySem.W.callWith_K0 (first := [.ref a]) I1.kIn hm.kp (run_fnSD (us := [.ref a]) (vs := [.ref a]) F hr hb hd (hx σ) I1 (.cons rfl .nil) q)
end

/-! ### own errors with one field -/
/-- what __init__ of such an error does: self.f = v -/
def spXI (C : Addr) (f : Str) : Sp := fun vs H Q _ => ∃ (a : Addr) (y : V), vs = [.ref a, y] ∧ H a = some (exo a C none) ∧ ∀ dx, H dx = none → dx ≠ a → Q .non (upd (upd H dx (exd dx [(f, y)])) a (exo a C (some dx)))
/-- all that is asked of the class x of errors at C, whose field is f -/
structure XCls (P : Program) (w : World) (K : PySem.W.Frag) (mg : Str → Option Value) (base : Heap) (x f : Str) (C : Addr) : Prop where
  ox : OexC K C
  gC : mg x = some (.ref C)
  noA : PySem.W.findIn K (.ref C) f = some none
  ec : ExcC K C
  ini : ∃ (fI : Addr) (fd : FuncData), PySem.W.findIn K (.ref C) "__init__" = some (some (.ref fI)) ∧ PySem.W.typeIn K (.ref fI) = some (.type "function") ∧ FnOk P w K mg base CX0 1 fI fd ["self", f] (spXI C f) ∧ Binds K fd ["self", f] []
theorem XCls.xf {P : Program} {w : World} {K : PySem.W.Frag} {mg : Str → Option Value} {base : Heap} {x f : Str} {C : Addr} (T : XCls P w K mg base x f C) : XfC K C := ⟨T.ec.hg, T.ec.hk, T.ec.hs, T.ec.hd⟩
section
variable {X : Cx} {C : Addr} {x f : Str} {e : Expr} {te : TE} {p pos pos2 : Pos}
theorem pmk_X (T : XCls X.prog X.w X.K X.mg X.base x f C) (hr : Room 2 X.A) (he : PE X e te) (hg : Gl X x) (hdb : (x == ("__debug__" : Str)) = false := by decide)
    (hs : starEach [e] X.env = (false, eval e X.env) :: starEach [] X.env := by rfl) (hpl : (backTo pos (starEach [] X.env)).any (·.1) = false := by rfl) :
    PMk X (.Call (.Name x p) [e] [] pos) (tMkO C (spXI C f) [] (tCons te tNil)) := by
  obtain ⟨fI, fd, i1, i2, F, b⟩ := T.ini
  exact pmk_oex (dvs := []) (ds := []) T.ox i1 i2 F hr b .nil pass0 hg T.gC (pa_cons he pa_nil hs) hdb hs hpl
/-- what is left to be shown behind the argument y -/
theorem mkX_fin {H1 : Hp} {y : V} {Q : XK} (h : ∀ d, H1 d = none → Q (.ref C) (some d) (upd H1 d (.xd [(f, y)]))) :
    [y].length ≤ 1000 ∧ ∀ a, H1 a = none → spXI C f (.ref a :: ([y] ++ [])) (upd H1 a (exo a C none))
      (fun v H2 => v = .non ∧ ∃ (d : Addr) (fs : List (Str × V)), H2 a = some (exo a C (some d)) ∧ H2 d = some (exd d fs) ∧ H1 d = none ∧ Q (.ref C) (some d) (upd (del H2 a) d (.xd fs))) (fun _ _ _ => False) := by
  refine ⟨by show 1 ≤ 1000; decide, fun a ha => ⟨a, y, rfl, upd_same, fun dx hdx hne => ⟨rfl, dx, [(f, y)], upd_same, ?_, ?_, ?_⟩⟩⟩
  · rw [upd_ne hne, upd_same]
  · rw [upd_ne hne] at hdx
    exact hdx
  · have hdx' : H1 dx = none := by
      rw [upd_ne hne] at hdx
      exact hdx
    have e : upd (del (upd (upd (upd H1 a (exo a C none)) dx (exd dx [(f, y)])) a (exo a C (some dx))) a) dx (.xd [(f, y)]) = upd H1 dx (.xd [(f, y)]) := by
      funext b
      by_cases hb : b = dx
      · rw [hb, upd_same, upd_same]
      · rw [upd_ne hb, upd_ne hb]
        by_cases hba : b = a
        · rw [hba, del_same, ha]
        · rw [del_ne hba, upd_ne hba, upd_ne hb, upd_ne hba]
    rw [e]
    exact h dx hdx'
end
end L2

set_option Elab.async false
set_option maxRecDepth 100000
set_option maxHeartbeats 4000000
namespace L2
open PySem PySem.Spec PyProof.Rows
section
variable (P : Program) (w : World) (K : PySem.W.Frag) (mg : Str → Option Value) (base : Heap)
/-- a def of the top, as the text has it -/
structure DefAt (x : Str) (st : Stmt) (ps : List Str) : Prop where
  ex : ∃ (f : Addr) (fd : FuncData), Fun K x x st f fd ∧ mg x = some (.ref f) ∧ Binds K fd ps []
/-- a def of the top that keeps its promise -/
structure Own (CX : CXT) (x : Str) (k : Nat) (ps : List Str) (sp : Sp) : Prop where
  ex : ∃ (f : Addr) (fd : FuncData), FnOk P w K mg base CX k f fd ps sp ∧ mg x = some (.ref f) ∧ PySem.W.keepIn K (.ref f) = true ∧ Binds K fd ps []
/-- a method of the class at C, as the text has it; one that keeps its promise -/
structure MethAt (C : Addr) (m qual : Str) (st : Stmt) (ps : List Str) : Prop where
  ex : ∃ (f : Addr) (fd : FuncData), Fun K m qual st f fd ∧ PySem.W.findIn K (.ref C) m = some (some (.ref f)) ∧ PySem.W.isFn K (.ref f) = true ∧ Binds K fd ps []
structure OwnM (CX : CXT) (C : Addr) (m : Str) (k : Nat) (ps : List Str) (sp : Sp) : Prop where
  ex : ∃ (f : Addr) (fd : FuncData), FnOk P w K mg base CX k f fd ps sp ∧ Meth K C m f ∧ PySem.W.isFn K (.ref f) = true ∧ Binds K fd ps []
/-- a class of the top with an own __init__ that keeps its promise -/
structure OwnC (CX : CXT) (x : Str) (C : Addr) (k : Nat) (ps : List Str) (sp : Sp) : Prop where
  ex : ∃ (f : Addr) (fd : FuncData), FnOk P w K mg base CX k f fd ps sp ∧ Mk K C f ∧ mg x = some (.ref C) ∧ Binds K fd ps []
end
section
variable {P : Program} {w : World} {K : PySem.W.Frag} {mg : Str → Option Value} {base : Heap} {CX : CXT} {x m qual : Str} {k : Nat} {ps : List Str} {sp : Sp} {st : Stmt} {C : Addr}
theorem DefAt.own (D : DefAt K mg x st ps) (h : ∀ f fd, Fun K x x st f fd → FnOk P w K mg base CX k f fd ps sp) : Own P w K mg base CX x k ps sp := by
  obtain ⟨f, fd, F, hm, hb⟩ := D.ex
  exact ⟨f, fd, h f fd F, hm, F.kp, hb⟩
theorem MethAt.own (D : MethAt K C m qual st ps) (h : ∀ f fd, Fun K m qual st f fd → FnOk P w K mg base CX k f fd ps sp) : OwnM P w K mg base CX C m k ps sp := by
  obtain ⟨f, fd, F, hm, hi, hb⟩ := D.ex
  exact ⟨f, fd, h f fd F, ⟨hm, hi, F.kp⟩, hi, hb⟩
theorem MethAt.cls (D : MethAt K C "__init__" qual st ps) (h : ∀ f fd, Fun K "__init__" qual st f fd → FnOk P w K mg base CX k f fd ps sp) (m1 : PySem.W.makesIn K C = true) (m2 : PySem.W.keepIn K (.ref C) = true) (m3 : mg x = some (.ref C)) :
    OwnC P w K mg base CX x C k ps sp := by
  obtain ⟨f, fd, F, hm, hi, hb⟩ := D.ex
  exact ⟨f, fd, h f fd F, ⟨m1, hm, hi, m2⟩, m3, hb⟩
end
section
variable {X : Cx} {CX : CXT} {x m : Str} {k : Nat} {ps : List Str} {sp : Sp} {e o : Expr} {es : List Expr} {t : TA} {ta : TE} {p pos apos : Pos} {C : Addr}
theorem pe_own (O : Own X.prog X.w X.K X.mg X.base CX x k ps sp) (hr : Room k X.A) (hx : Passes CX X E0) (ha : PA X (e :: es) t) (hg : Gl X x := by rfl) (hdb : (x == ("__debug__" : Str)) = false := by decide)
    (he : starEach (e :: es) X.env = (false, eval e X.env) :: starEach es X.env := by rfl) (hpl : (backTo pos (starEach es X.env)).any (·.1) = false := by rfl) : PE X (.Call (.Name x p) (e :: es) [] pos) (tCall sp [] E0 t) := by
  obtain ⟨f, fd, F, hm, hk, hb⟩ := O.ex
  exact pe_call F hr hg hm hk hb .nil hx ha hdb he hpl
theorem pe_own0 (O : Own X.prog X.w X.K X.mg X.base CX x k ps sp) (hr : Room k X.A) (hx : Passes CX X E0) (hg : Gl X x := by rfl) (hdb : (x == ("__debug__" : Str)) = false := by decide) : PE X (.Call (.Name x p) [] [] pos) (tCall sp [] E0 tNil) := by
  obtain ⟨f, fd, F, hm, hk, hb⟩ := O.ex
  exact pe_call0 F hr hg hm hk hb .nil hx hdb
/-- one that may raise; W is wished for what it raises -/
theorem pe_ownS {W : WX} (O : Own X.prog X.w X.K X.mg X.base (L2.CX X.prog X.w) x k ps sp) (hr : Room k X.A) (tk : Takes X W) (ha : PA X (e :: es) t) (hg : Gl X x := by rfl) (hdb : (x == ("__debug__" : Str)) = false := by decide)
    (he : starEach (e :: es) X.env = (false, eval e X.env) :: starEach es X.env := by rfl) (hpl : (backTo pos (starEach es X.env)).any (·.1) = false := by rfl) : PE X (.Call (.Name x p) (e :: es) [] pos) (tCallS sp (WE W) t) := by
  obtain ⟨f, fd, F, hm, hk, hb⟩ := O.ex
  exact pe_callS F hr hg hm hk hb (fun σ => passAt tk σ) ha hdb he hpl
theorem pe_new (O : OwnC X.prog X.w X.K X.mg X.base CX x C k ps sp) (hr : Room (k + 1) X.A) (hx : Passes CX X E0) (ha : PA X (e :: es) t) (hg : Gl X x := by rfl) (hdb : (x == ("__debug__" : Str)) = false := by decide)
    (he : starEach (e :: es) X.env = (false, eval e X.env) :: starEach es X.env := by rfl) (hpl : (backTo pos (starEach es X.env)).any (·.1) = false := by rfl) : PE X (.Call (.Name x p) (e :: es) [] pos) (tMake C sp [] E0 t) := by
  obtain ⟨f, fd, F, M, hm, hb⟩ := O.ex
  exact pe_make M F hr hg hm hb .nil hx ha hdb he hpl
theorem pe_newS {W : WX} (O : OwnC X.prog X.w X.K X.mg X.base (L2.CX X.prog X.w) x C k ps sp) (hr : Room (k + 1) X.A) (tk : Takes X W) (ha : PA X (e :: es) t) (hg : Gl X x := by rfl) (hdb : (x == ("__debug__" : Str)) = false := by decide)
    (he : starEach (e :: es) X.env = (false, eval e X.env) :: starEach es X.env := by rfl) (hpl : (backTo pos (starEach es X.env)).any (·.1) = false := by rfl) : PE X (.Call (.Name x p) (e :: es) [] pos) (tMakeS C sp [] (WE W) t) := by
  obtain ⟨f, fd, F, M, hm, hb⟩ := O.ex
  exact pe_makeS M F hr hg hm hb .nil (fun σ => passAt tk σ) ha hdb he hpl
theorem pe_gint {n : Int} (hm : ∃ t, X.mg x = some (.int n t)) (hg : Gl X x := by rfl) (hd : (x == ("__debug__" : Str)) = false := by decide) : PE X (.Name x pos) (tC (.int n)) := by
  obtain ⟨t, hm⟩ := hm
  exact pe_glob hg hm ⟨t, rfl⟩ hd
theorem pe_gcls (hm : X.mg x = some (.ref C)) (hg : Gl X x := by rfl) (hd : (x == ("__debug__" : Str)) = false := by decide) : PE X (.Name x pos) (tC (.ref C)) := pe_glob hg hm rfl hd
end
/-! ### ==, != by own methods, len -/
section
variable {X : Cx} {CX : CXT} {k : Nat} {C : Addr} {ps : List Str} {sp : Sp}
structure NeM (K : PySem.W.Frag) (C : Addr) : Prop where
  ne : PySem.W.findIn K (.ref C) "__ne__" = some (some (.builtin "object.__ne__"))
  ob : PySem.W.mroIn K C (.type "object") = some true
theorem eqO (O : OwnM X.prog X.w X.K X.mg X.base CX C "__eq__" k ps sp) (N : NeM X.K C) (hr : Room k X.A) (hx : Passes CX X E0) : OpR X (compareOp .Eq) (rEqO X.K C sp) := by
  obtain ⟨f, fd, F, M, hi, hb⟩ := O.ex
  exact op_eqO F ⟨M.at_, hi, N.ne, N.ob⟩ hr hb hx
theorem neO (O : OwnM X.prog X.w X.K X.mg X.base CX C "__eq__" k ps sp) (N : NeM X.K C) (hr : Room (k + 1) X.A) (hx : Passes CX X E0) : OpR X (compareOp .NotEq) (rNeO X.K C sp) := by
  obtain ⟨f, fd, F, M, hi, hb⟩ := O.ex
  exact op_neO F ⟨M.at_, hi, N.ne, N.ob⟩ hr hb hx
theorem lenO (O : OwnM X.prog X.w X.K X.mg X.base CX C "__len__" k ps sp) (hr : Room (k + 1) X.A) (hx : Passes CX X E0) : CallR X (.builtin "len") (rLenO C sp) := by
  obtain ⟨f, fd, F, M, hi, hb⟩ := O.ex
  exact call_lenO F M.at_ hi hr hb hx
end
end L2

set_option Elab.async false
set_option maxRecDepth 100000
set_option maxHeartbeats 4000000
/-! kinds of plain values; their isinstance -/
namespace L2
open PySem PySem.Spec PyProof.Rows
inductive Knd | int | bool | none | str | list | tuple
  deriving DecidableEq
def Knd.name : Knd → String
  | .int => "int" | .bool => "bool" | .none => "NoneType" | .str => "str" | .list => "list" | .tuple => "tuple"
def KndOf (H : Hp) (v : V) : Knd → Prop
  | .int => ∃ n, v = .int n
  | .bool => ∃ b, v = .bl b
  | .none => v = .non
  | .str => ∃ s, v = .str s
  | .list => ∃ a xs, v = .ref a ∧ H a = some (.lst xs)
  | .tuple => ∃ a xs, v = .ref a ∧ H a = some (.tup xs)
def Knd.isInt : Knd → Bool | .int => true | .bool => true | _ => false
def Knd.isBool : Knd → Bool | .bool => true | _ => false
def Knd.isSeq : Knd → Bool | .list => true | .tuple => true | _ => false
def Knd.isTup : Knd → Bool | .tuple => true | _ => false
def Knd.isList : Knd → Bool | .list => true | _ => false
def Knd.isStr : Knd → Bool | .str => true | _ => false
section
variable {K : PySem.W.Frag} {H : Hp} {v : V} {k : Knd}
theorem knd_ty (h : KndOf H v k) : TyX K H v (.type k.name) := by
  cases k with
  | int => obtain ⟨n, rfl⟩ := h; exact .base (.int n)
  | bool => obtain ⟨n, rfl⟩ := h; exact .base (.bl n)
  | none => cases h; exact .base .non
  | str => obtain ⟨n, rfl⟩ := h; exact .base (.str n)
  | list => obtain ⟨a, xs, rfl, e⟩ := h; exact .base (.lst e)
  | tuple => obtain ⟨a, xs, rfl, e⟩ := h; exact .base (.tup e)
theorem knd_int : PySem.W.kitOne K (.type k.name) (.type "int") = some k.isInt := by cases k <;> exact kit_ty (by decide +kernel)
theorem knd_bool : PySem.W.kitOne K (.type k.name) (.type "bool") = some k.isBool := by cases k <;> exact kit_ty (by decide +kernel)
theorem knd_tup : PySem.W.kitOne K (.type k.name) (.type "tuple") = some k.isTup := by cases k <;> exact kit_ty (by decide +kernel)
theorem knd_list : PySem.W.kitOne K (.type k.name) (.type "list") = some k.isList := by cases k <;> exact kit_ty (by decide +kernel)
theorem knd_str : PySem.W.kitOne K (.type k.name) (.type "str") = some k.isStr := by cases k <;> exact kit_ty (by decide +kernel)
theorem knd_seq : PySem.W.kitAny K (.type k.name) [.type "list", .type "tuple"] = some k.isSeq := by
  cases k
  case list => exact kitAny_cons knd_list (by intro h; cases h) (fun _ => rfl)
  case tuple => exact kitAny_cons knd_list (fun _ => kitAny_cons knd_tup (by intro h; cases h) (fun _ => rfl)) (by intro h; cases h)
  all_goals exact kitAny_cons knd_list (fun _ => kitAny_cons knd_tup (fun _ => kitAny_nil) (by intro h; cases h)) (by intro h; cases h)
theorem KndOf.ext {H' : Hp} (h : KndOf H v k) (e : Ext H H') : KndOf H' v k := by
  cases k with
  | list => obtain ⟨a, xs, r, q⟩ := h; exact ⟨a, xs, r, e _ _ q⟩
  | tuple => obtain ⟨a, xs, r, q⟩ := h; exact ⟨a, xs, r, e _ _ q⟩
  | _ => exact h
theorem ki (n : Int) : KndOf H (.int n) .int := ⟨n, rfl⟩
theorem kb (n : Bool) : KndOf H (.bl n) .bool := ⟨n, rfl⟩
theorem kn : KndOf H .non .none := rfl
theorem ks (n : Str) : KndOf H (.str n) .str := ⟨n, rfl⟩
end
/-- a value that is an int from a to b -/
def betw (v : V) (a b : Int) : Bool := match v with
  | .int n => decide (a ≤ n) && decide (n ≤ b)
  | _ => false
theorem betw_int {n a b : Int} : betw (.int n) a b = (decide (a ≤ n) && decide (n ≤ b)) := rfl
theorem betw_not {H : Hp} {v : V} {k : Knd} {a b : Int} (h : KndOf H v k) (hk : (k.isInt && !k.isBool) = false) : betw v a b = false := by
  cases k with
  | int => cases hk
  | bool => obtain ⟨n, rfl⟩ := h; rfl
  | none => cases h; rfl
  | str => obtain ⟨n, rfl⟩ := h; rfl
  | list => obtain ⟨n, xs, rfl, _⟩ := h; rfl
  | tuple => obtain ⟨n, xs, rfl, _⟩ := h; rfl
theorem knd_yes {k : Knd} (h : (k.isInt && !k.isBool) = true) : k = .int := by cases k <;> first | rfl | cases h
/-! ### isinstance, read -/
section
variable {K : PySem.W.Frag} {σ : St} {H : Hp} {v : V} {k : Knd} {Q : VK} {te : TE}
theorem v_isI (hk : KndOf H v k) {b : Bool} {c : String} (e : PySem.W.kitOne K (.type k.name) (.type c) = some b) (q : Q (.bl b) H) : rIsi K [v, .ty c] H Q :=
  ⟨v, .ty c, .type k.name, .type c, b, rfl, .ty c, knd_ty hk, e, q⟩
end
end L2

set_option Elab.async false
set_option maxRecDepth 100000
set_option maxHeartbeats 4000000
namespace L2
open PySem PySem.Spec PyProof.Rows
section
variable {K : PySem.W.Frag} {C : Addr}
theorem no_ref (l : List String) : (l.map Value.type).contains (Value.ref C) = false := by
  induction l with
  | nil => rfl
  | cons a l ih =>
    rw [List.map_cons, List.contains_cons, ih]
    rfl
theorem sub_ty_ref {T : String} (h : (fastFind? T).isSome = true) : PySem.W.subIn K (.type T) (.ref C) = some false := by
  obtain ⟨r, hr⟩ := Option.isSome_iff_exists.mp h
  show (fastBuiltinMro T).map (·.contains (Value.ref C)) = some false
  unfold fastBuiltinMro
  rw [hr]
  show some ((r.mro.map Value.type).contains (Value.ref C)) = some false
  rw [no_ref]
theorem knd_find (k : Knd) : (fastFind? k.name).isSome = true := by cases k <;> decide +kernel
/-- all that is asked of an own plain class x at C -/
structure ClsX (K : PySem.W.Frag) (mg : Str → Option Value) (x : Str) (C : Addr) : Prop where
  gC : mg x = some (.ref C)
  cl : Cls K C
  ha : PySem.W.findIn K (.ref C) "__class__" = some (some (.builtin "object.__class__"))
  hn : PySem.W.specialIn K (.builtin "object.__class__") "__get__" = some (some (.builtin "getset_descriptor.__get__"))
  htk : PySem.W.takesIn K (.builtin "object.__class__") = some true
  hm : PySem.W.mroIn K C (.type "object") = some true
  ne : PySem.W.findIn K (.ref C) "__ne__" = some (some (.builtin "object.__ne__"))
  is : PySem.W.isClsIn K C = true
  ty : PySem.W.typeIn K (.ref C) = some (.type "type")
  tup : PySem.W.subIn K (.ref C) (.type "tuple") = some false
  lst : PySem.W.subIn K (.ref C) (.type "list") = some false
  int : PySem.W.subIn K (.ref C) (.type "int") = some false
  str : PySem.W.subIn K (.ref C) (.type "str") = some false
variable {mg : Str → Option Value} {x : Str}
theorem ClsX.neM (T : ClsX K mg x C) : NeM K C := ⟨T.ne, T.hm⟩
theorem ClsX.tyOf (T : ClsX K mg x C) {H : Hp} {a dx : Addr} {fs : List (Str × V)} (e : H a = some (.ins C dx fs)) : TyX K H (.ref a) (.ref C) := .base (.ins e T.cl T.ha T.hn T.htk T.hm)
theorem ClsX.me (_ : ClsX K mg x C) : PySem.W.kitOne K (.ref C) (.ref C) = some true := if_pos (beq_self_eq_true _)
theorem ClsX.nfMe (_ : ClsX K mg x C) : PySem.W.notFirst K C (.ref C) = true := by
  show (Value.ref C == Value.ref C || _) = true
  rw [beq_self_eq_true]
  rfl
theorem ClsX.kitB (T : ClsX K mg x C) {t : Value} {b : Bool} (h : PySem.W.subIn K t (.ref C) = some b) (hne : (t == .ref C) = false) : PySem.W.kitOne K t (.ref C) = some b := by
  have e : ((PySem.W.clsIn K C).isSome && PySem.W.typeIn K (.ref C) == some (.type "type")) = true := by
    have h1 : (PySem.W.clsIn K C).isSome = true := T.is
    rw [h1, T.ty]
    rfl
  show (if (t == Value.ref C) = true then some true else if ((PySem.W.clsIn K C).isSome && PySem.W.typeIn K (.ref C) == some (.type "type")) = true then PySem.W.subIn K t (.ref C) else none) = some b
  rw [hne, if_neg Bool.false_ne_true, if_pos e]
  exact h
theorem ClsX.kitK (T : ClsX K mg x C) (k : Knd) : PySem.W.kitOne K (.type k.name) (.ref C) = some false := T.kitB (sub_ty_ref (knd_find k)) rfl
theorem ClsX.nfK (_ : ClsX K mg x C) (k : Knd) : PySem.W.notFirst K C (.type k.name) = true := by
  show (Value.type k.name == Value.ref C || PySem.W.subIn K (.type k.name) (.ref C) == some false) = true
  rw [sub_ty_ref (knd_find k)]
  exact Bool.or_eq_true_iff.mpr (.inr (by decide))
theorem kit_meta {T : String} {b : Bool} (h : PySem.W.subIn K (.ref C) (.type T) = some b) (hm : PySem.W.kitMeta T = true) : PySem.W.kitOne K (.ref C) (.type T) = some b := by
  show (if (Value.ref C == Value.type T) = true then some true else if PySem.W.kitMeta T = true then PySem.W.subIn K (.ref C) (.type T) else none) = some b
  rw [show (Value.ref C == Value.type T) = false from rfl, if_neg Bool.false_ne_true, if_pos hm]
  exact h
theorem ClsX.kTup (T : ClsX K mg x C) : PySem.W.kitOne K (.ref C) (.type "tuple") = some false := kit_meta T.tup (by decide +kernel)
theorem ClsX.kInt (T : ClsX K mg x C) : PySem.W.kitOne K (.ref C) (.type "int") = some false := kit_meta T.int (by decide +kernel)
theorem ClsX.kLst (T : ClsX K mg x C) : PySem.W.kitOne K (.ref C) (.type "list") = some false := kit_meta T.lst (by decide +kernel)
theorem ClsX.kStr (T : ClsX K mg x C) : PySem.W.kitOne K (.ref C) (.type "str") = some false := kit_meta T.str (by decide +kernel)
end
/-! ### an own error's class, from what the top has written -/
section
variable {P : Program} {w : World} {K : PySem.W.Frag} {mg : Str → Option Value} {base : Heap} {x f : Str} {C : Addr}
/-- what k_is finds of the class -/
structure XAt (K : PySem.W.Frag) (mg : Str → Option Value) (x f : Str) (C : Addr) (st : Stmt) (qual : Str) : Prop where
  ox : OexC K C
  gC : mg x = some (.ref C)
  noA : PySem.W.findIn K (.ref C) f = some none
  ec : ExcC K C
  tI : ∃ fI, PySem.W.findIn K (.ref C) "__init__" = some (some (.ref fI)) ∧ PySem.W.typeIn K (.ref fI) = some (.type "function") ∧ ∃ fd, Fun K "__init__" qual st fI fd ∧ Binds K fd ["self", f] []
theorem XAt.cls {st : Stmt} {qual : Str} (T : XAt K mg x f C st qual) (h : ∀ fI fd, Fun K "__init__" qual st fI fd → FnOk P w K mg base CX0 1 fI fd ["self", f] (spXI C f)) : XCls P w K mg base x f C := by
  obtain ⟨fI, i1, i2, fd, F, b⟩ := T.tI
  exact ⟨T.ox, T.gC, T.noA, T.ec, fI, fd, i1, i2, h fI fd F, b⟩
end
/-! ### fields -/
section
theorem lk_put {f g : Str} {v : V} {fs : List (Str × V)} : List.lookup g ((f, v) :: fs) = if (g == f) = true then some v else List.lookup g fs := by
  simp only [List.lookup]
  split
  · rename_i h; rw [h, if_pos rfl]
  · rename_i h; rw [h, if_neg Bool.false_ne_true]
end
end L2

set_option Elab.async false
set_option maxRecDepth 100000
set_option maxHeartbeats 4000000
/-! plain data: lists and tuples of flat values, compared -/
namespace L2
open PySem PySem.Spec PyProof.Rows
def pd : V → PyData
  | .int i => .int i
  | .bl b => .bool b
  | .str s => .str s
  | _ => .none
/-- flat, its text (if it is one) within the model's signs -/
def Fl : V → Prop
  | .int _ => True
  | .bl _ => True
  | .non => True
  | .str s => PySem.PyData.canLay0 (.str s) = true
  | _ => False
section
variable {K : PySem.W.Frag} {H : Hp} {v u : V}
theorem dp_fl (h : Fl v) : Dp K H v (pd v) := by
  cases v <;> first | exact .int _ | exact .bl _ | exact .str _ | exact .non | exact h.elim
theorem dp_all : ∀ {vs : List V}, (∀ v ∈ vs, Fl v) → DpAll K H vs (vs.map pd)
  | [], _ => .nil
  | v :: vs, h => .cons (dp_fl (h v List.mem_cons_self)) (dp_all fun u hu => h u (List.mem_cons_of_mem _ hu))
theorem lay_fl (h : Fl v) : (pd v).canLay0 = true := by
  cases v <;> first | rfl | exact h | exact h.elim
theorem dep_fl : (pd v).depth = 0 := by cases v <;> rfl
theorem lay_all : ∀ {vs : List V}, (∀ v ∈ vs, Fl v) → PyData.canLayAll0 (vs.map pd) = true ∧ PyData.depthAll (vs.map pd) = 0
  | [], _ => ⟨rfl, rfl⟩
  | v :: vs, h => by
    obtain ⟨a, b⟩ := lay_all (vs := vs) fun u hu => h u (List.mem_cons_of_mem _ hu)
    constructor
    · show ((pd v).canLay0 && PyData.canLayAll0 (vs.map pd)) = true
      rw [lay_fl (h v List.mem_cons_self), a]
      rfl
    · show max (pd v).depth (PyData.depthAll (vs.map pd)) = 0
      rw [dep_fl, b]
      rfl
theorem shp_fl (h : Fl v) : SeqAt.shaped (pd v) = true := by
  show ((pd v).canLay0 && decide ((pd v).depth ≤ 64)) = true
  rw [lay_fl h, dep_fl]
  rfl
theorem shp_tup {vs : List V} (h : ∀ v ∈ vs, Fl v) : SeqAt.shaped (.tuple (vs.map pd)) = true := by
  obtain ⟨a, b⟩ := lay_all h
  show (PyData.canLayAll0 (vs.map pd) && decide (PyData.depthAll (vs.map pd) + 1 ≤ 64)) = true
  rw [a, b]
  rfl
theorem shp_lst {vs : List V} (h : ∀ v ∈ vs, Fl v) : SeqAt.shaped (.list (vs.map pd)) = true := by
  obtain ⟨a, b⟩ := lay_all h
  show (PyData.canLayAll0 (vs.map pd) && decide (PyData.depthAll (vs.map pd) + 1 ≤ 64)) = true
  rw [a, b]
  rfl
theorem fl_int (n : Int) : Fl (.int n) := trivial
theorem fl_ints {ns : List Int} : ∀ v ∈ ns.map V.int, Fl v := fun v hv => by
  obtain ⟨n, _, rfl⟩ := List.mem_map.mp hv
  trivial
theorem eqv_ints : ∀ (ns ms : List Int), PyData.eqvAll ((ns.map V.int).map pd) ((ms.map V.int).map pd) = decide (ns = ms)
  | [], [] => rfl
  | [], _ :: _ => rfl
  | _ :: _, [] => rfl
  | n :: ns, m :: ms => by
    show ((n == m) && PyData.eqvAll ((ns.map V.int).map pd) ((ms.map V.int).map pd)) = decide (n :: ns = m :: ms)
    rw [eqv_ints ns ms, Bool.eq_iff_iff]
    simp
/-- the same values are equal data -/
theorem eqv_same : ∀ {vs : List V}, (∀ v ∈ vs, Fl v) → PyData.eqvAll (vs.map pd) (vs.map pd) = true
  | [], _ => rfl
  | v :: vs, h => by
    show (PyData.eqv (pd v) (pd v) && PyData.eqvAll (vs.map pd) (vs.map pd)) = true
    rw [eqv_same (vs := vs) fun u hu => h u (List.mem_cons_of_mem _ hu), Bool.and_true]
    cases v <;> first | rfl | (show (_ == _) = true; exact beq_self_eq_true _)
/-- two tuples compared (op_eqD, op_neD): what is left -/
theorem eqD_tup {p q : Addr} {vs us : List V} {Q : VK} (hp : SqT K H p vs) (hq : SqT K H q us) (fv : ∀ v ∈ vs, Fl v) (fu : ∀ v ∈ us, Fl v) (h : Q (.bl (PyData.eqvAll (vs.map pd) (us.map pd))) H) : rEqD K (.ref p) (.ref q) H Q :=
  ⟨_, _, .tup hp (dp_all fv), .tup hq (dp_all fu), shp_tup fv, shp_tup fu, h⟩
theorem neD_tup {p q : Addr} {vs us : List V} {Q : VK} (hp : SqT K H p vs) (hq : SqT K H q us) (fv : ∀ v ∈ vs, Fl v) (fu : ∀ v ∈ us, Fl v) (h : Q (.bl (!PyData.eqvAll (vs.map pd) (us.map pd))) H) : rNeD K (.ref p) (.ref q) H Q :=
  ⟨_, _, .tup hp (dp_all fv), .tup hq (dp_all fu), shp_tup fv, shp_tup fu, h⟩
theorem eqD_lst {p q : Addr} {vs us : List V} {Q : VK} (hp : SqL K H p vs) (hq : SqL K H q us) (fv : ∀ v ∈ vs, Fl v) (fu : ∀ v ∈ us, Fl v) (h : Q (.bl (PyData.eqvAll (vs.map pd) (us.map pd))) H) : rEqD K (.ref p) (.ref q) H Q :=
  ⟨_, _, .lst hp (dp_all fv), .lst hq (dp_all fu), shp_lst fv, shp_lst fu, h⟩
theorem neD_lst {p q : Addr} {vs us : List V} {Q : VK} (hp : SqL K H p vs) (hq : SqL K H q us) (fv : ∀ v ∈ vs, Fl v) (fu : ∀ v ∈ us, Fl v) (h : Q (.bl (!PyData.eqvAll (vs.map pd) (us.map pd))) H) : rNeD K (.ref p) (.ref q) H Q :=
  ⟨_, _, .lst hp (dp_all fv), .lst hq (dp_all fu), shp_lst fv, shp_lst fu, h⟩
end
end L2

set_option Elab.async false
set_option maxRecDepth 100000
set_option maxHeartbeats 4000000
namespace L2
open PySem PySem.Spec PyProof.Rows
section
variable {X : Cx}
/-- range(j), kept -/
theorem cr_range1 : CallR X (.type "range") (fun vs H Q => ∃ j, vs = [V.int j] ∧ ∀ p, H p = none → Q (.ref p) (upd H p (.rng 0 j))) := by
  intro pins s σ H vs us Q I r h
  obtain ⟨j, rfl, q⟩ := h
  obtain ⟨u1, rfl, rj⟩ := vals1 r
  obtain ⟨t, rfl⟩ := rj
  refine call_range_1 ⟨.ref s.heap.objs.size, upd H s.heap.objs.size (.rng 0 j), I.laid (t' := s.toks + 1 + 1) (fun b o e => Heap.get?_push_of_some _ e) (Nat.le_refl _) ?_, rfl, q _ (I.hok.fresh (Nat.le_refl _))⟩
  exact ⟨s.toks, t, s.toks + 1, Heap.get?_push_size _ rfl⟩
/-- len of a range -/
theorem call_lenR : CallR X (.builtin "len") (fun xs H Q => ∃ a lo hi, xs = [.ref a] ∧ H a = some (.rng lo hi) ∧ (hi - lo).toNat < 2 ^ 62 ∧ Q (.int ((hi - lo).toNat : Int)) H) := by
  intro pins s σ H xs us Q I r h
  obtain ⟨a, lo, hi, rfl, ha, hz, q⟩ := h
  rw [Vals.ref1 r]
  obtain ⟨t, u, v, ho⟩ := I.hok a _ ha
  exact call_len_range (n := (hi - lo).toNat) ho (rangeSize_nat lo hi) (by omega) ⟨.int ((hi - lo).toNat : Int), H, I.tok _, ⟨_, rfl⟩, q⟩
/-- sum of a tuple of ints -/
def rSumT (K : PySem.W.Frag) : List V → Hp → VK → Prop := fun vs H Q => ∃ (a : Addr) (ns : List Int), vs = [V.ref a] ∧ SqT K H a (ns.map V.int) ∧ Q (.int ns.sum) H
theorem cr_sumT (hc : X.calm = true) : CallR X (.builtin "sum") (rSumT X.K) := by
  intro pins s σ H vs us Q I r h
  obtain ⟨a, ns, rfl, hs, q⟩ := h
  obtain ⟨its, rv, hl, _⟩ := I.tuple hs
  rw [Vals.ref1 r]
  have hi := rv.ints
  obtain ⟨xs, e⟩ := hi.allInts.items
  have hn : numsOf (intItems xs).toList = ns := by rw [← e]; exact hi.numsOf
  rw [nums_intItems] at hn
  rw [e] at hl
  refine PySem.W.ktm_sumG (I.ok.hd hc) hl fun h' tk t' hk => ?_
  rw [preSum_eq, List.take_of_length_le (by simp), hn]
  exact ⟨.int ns.sum, H, I.kept hk, ⟨_, rfl⟩, q⟩
end
end L2

set_option Elab.async false
set_option maxRecDepth 100000
set_option maxHeartbeats 4000000
namespace L2
open PySem PySem.Spec PyProof.Rows
/-- a list or tuple at p of the items xs -/
def Sq (H : Hp) (p : Addr) (xs : List V) : Prop := H p = some (.lst xs) ∨ H p = some (.tup xs)
section
variable {K : PySem.W.Frag} {H H' : Hp} {p : Addr} {xs : List V}
theorem Sq.k (h : Sq H p xs) : ∃ k, KndOf H (.ref p) k ∧ k.isSeq = true := by
  rcases h with h | h
  · exact ⟨.list, ⟨p, xs, rfl, h⟩, rfl⟩
  · exact ⟨.tuple, ⟨p, xs, rfl, h⟩, rfl⟩
theorem Sq.ext (h : Sq H p xs) (e : Ext H H') : Sq H' p xs := h.imp (e _ _) (e _ _)
theorem Sq.l (h : Sq H p xs) : SqL K H p xs ∨ SqT K H p xs := h.imp SqL.of SqT.of
theorem ext_mut {D : Addr} {o : HO} (e : Ext H H') (h : H D = none) : Ext H (upd H' D o) := fun a u ha => by
  rw [upd_ne (ne_of_none ha h)]
  exact e a u ha
theorem ext_none {D : Addr} (e : Ext H H') (h : H' D = none) : H D = none := by
  cases h1 : H D with
  | none => rfl
  | some o =>
    rw [e D o h1] at h
    cases h
end
section
variable {X : Cx} {tg : Expr}
/-- a list or a tuple is walked -/
def iSq (K : PySem.W.Frag) (tl : TE) : TI := fun σ H R => tl σ H fun x H1 => ∃ a, x = .ref a ∧ (((∃ xs, SqL K H1 a xs) ∧ R (Itl K a) H1) ∨ ((∃ xs, SqT K H1 a xs) ∧ R (Itt K a) H1))
theorem pi_sq {l : Expr} {tl : TE} (hl : PE X l tl) : PI X tg l (iSq X.K tl) := by
  refine ⟨fun pins s σ H R I h => ?_⟩
  refine thn (hl.run pins s σ H _ I h) fun v s1 ⟨x, H1, I1, r1, q1⟩ => ?_
  obtain ⟨a, e, q1⟩ := q1
  subst e
  cases r1
  rcases q1 with ⟨⟨xs, hq⟩, q⟩ | ⟨⟨xs, hq⟩, q⟩
  · obtain ⟨its, rv, p, hz⟩ := I1.list hq
    refine wpAny_pyIter_list p.isList ?_
    refine ⟨s1.heap.objs.size, [s1.heap.objs.size], _, _, H1, rfl, I1.kept (t' := s1.toks) fun b o e => Heap.get?_push_of_some _ e, turn_list a _, ⟨_, Heap.get?_push_size _ rfl, rfl, rfl⟩, fun b hb => ?_, q⟩
    have e : b = s1.heap.objs.size := by simpa using hb
    subst e
    exact I1.fpOk (Nat.le_refl _) (I1.hok.fresh (Nat.le_refl _))
  · obtain ⟨its, rv, p, hz⟩ := I1.tuple hq
    refine wpAny_pyIter_tuple (show s1.heap.IsTuple a its.toArray from p) ?_
    refine ⟨s1.heap.objs.size, [s1.heap.objs.size], _, _, H1, rfl, I1.kept (t' := s1.toks) fun b o e => Heap.get?_push_of_some _ e, turn_tuple a _, ⟨_, Heap.get?_push_size _ rfl, rfl, rfl⟩, fun b hb => ?_, q⟩
    have e : b = s1.heap.objs.size := by simpa using hb
    subst e
    exact I1.fpOk (Nat.le_refl _) (I1.hok.fresh (Nat.le_refl _))
end
section
variable {K : PySem.W.Frag} {σ : St} {H : Hp} {p : Addr} {xs : List V} {te : TE} {tt : TT} {j : Nat} {vs : List Nat} {Q : VK}
theorem take_snoc {α : Type} {l : List α} {i : Nat} {x : α} (h : l[i]? = some x) : l.take (i + 1) = l.take i ++ [x] := by
  rw [List.take_add_one, h]
  rfl
/-- [f(x) for x in xs if b(x)], what is tested and made only adding to the heap: the reading behind the source's own -/
theorem lc_sqR {Qd : Addr → Hp → Prop} {f : V → V} {b : V → Bool} (hx : Sq H p xs) (hz : xs.length < sizeLine) (hw : ∀ x, wipe ((wipe σ vs).set j (some x)) vs = wipe σ vs)
    (ht : ∀ x ∈ xs, ∀ H', Ext H H' → ∀ Q : Bool → Hp → Prop, (∀ H'', Ext H' H'' → Q (b x) H'') → tt ((wipe σ vs).set j (some x)) H' Q)
    (he : ∀ x ∈ xs, b x = true → ∀ H', Ext H H' → ∀ Q : VK, (∀ H'', Ext H' H'' → Q (f x) H'') → te ((wipe σ vs).set j (some x)) H' Q)
    (q : ∀ D H', H D = none → Ext H H' → H' D = some (.lst ((xs.filter b).map f)) → Qd D H') :
    ((∃ xs, SqL K H p xs) ∧ (fun J H1 => ∀ D, H1 D = none → ∃ W : Nat → Nat → Hp → Prop, (∃ m, W 0 m (upd H1 D (.lst []))) ∧ ∀ i m H, W i m H →
      (J.stop i H ∧ Qd D H) ∨ (J.go i H ∧ ∃ Nx : Hp → Prop, (∀ H', Nx H' → ∃ m', m' < m ∧ W (i + 1) m' H') ∧ ∀ x H', J.yld i H x H' → gName j x (wipe σ vs) H' fun σ2 H2 => wipe σ2 vs = wipe σ vs ∧ tt σ2 H2 fun b H3 =>
        if b = true then te σ2 H3 fun y H4 => ∃ acc, H4 D = some (.lst acc) ∧ acc.length < sizeLine ∧ Nx (upd H4 D (.lst (acc ++ [y]))) else Nx H3)) (Itl K p) H) ∨
    ((∃ xs, SqT K H p xs) ∧ (fun J H1 => ∀ D, H1 D = none → ∃ W : Nat → Nat → Hp → Prop, (∃ m, W 0 m (upd H1 D (.lst []))) ∧ ∀ i m H, W i m H →
      (J.stop i H ∧ Qd D H) ∨ (J.go i H ∧ ∃ Nx : Hp → Prop, (∀ H', Nx H' → ∃ m', m' < m ∧ W (i + 1) m' H') ∧ ∀ x H', J.yld i H x H' → gName j x (wipe σ vs) H' fun σ2 H2 => wipe σ2 vs = wipe σ vs ∧ tt σ2 H2 fun b H3 =>
        if b = true then te σ2 H3 fun y H4 => ∃ acc, H4 D = some (.lst acc) ∧ acc.length < sizeLine ∧ Nx (upd H4 D (.lst (acc ++ [y]))) else Nx H3)) (Itt K p) H) := by
  have turn : ∀ (D : Addr), H D = none → ∀ i x H', xs[i]? = some x → (Ext H H' ∧ H' D = some (.lst (((xs.take i).filter b).map f))) → gName j x (wipe σ vs) H' fun σ2 H2 => wipe σ2 vs = wipe σ vs ∧ tt σ2 H2 fun b' H3 =>
      if b' = true then te σ2 H3 fun y H4 => ∃ acc, H4 D = some (.lst acc) ∧ acc.length < sizeLine ∧ (Ext H (upd H4 D (.lst (acc ++ [y]))) ∧ upd H4 D (.lst (acc ++ [y])) D = some (.lst (((xs.take (i + 1)).filter b).map f))) else (Ext H H3 ∧ H3 D = some (.lst (((xs.take (i + 1)).filter b).map f))) := by
    intro D hD i x H' hi pv
    obtain ⟨e, hl⟩ := pv
    have hm : x ∈ xs := List.mem_of_getElem? hi
    refine ⟨hw x, ht x hm H' e _ fun H3 e3 => ?_⟩
    have hl3 : H3 D = some (.lst (((xs.take i).filter b).map f)) := e3 _ _ hl
    cases hb : b x with
    | true =>
      refine iteT (he x hm hb H3 (e.trans e3) _ fun H4 e4 => ⟨_, e4 _ _ hl3, ?_, ext_mut ((e.trans e3).trans e4) hD, ?_⟩)
      · rw [List.length_map]
        refine Nat.lt_of_le_of_lt (Nat.le_trans (List.length_filter_le _ _) ?_) hz
        exact List.length_take_le' _ _
      · rw [upd_same, take_snoc hi, List.filter_append, List.map_append]
        simp [hb]
    | false =>
      refine iteF ⟨e.trans e3, ?_⟩
      rw [hl3, take_snoc hi, List.filter_append, List.map_append]
      simp [hb]
  have fin : ∀ D, H D = none → ∀ H', (Ext H H' ∧ H' D = some (.lst (((xs.take xs.length).filter b).map f))) → Qd D H' := fun D hD H' pv => by
    rw [List.take_length] at pv
    exact q D H' hD pv.1 pv.2
  rcases hx with hx | hx
  · refine .inl ⟨⟨xs, SqL.of hx⟩, fun D hD => lc_list (xs := xs) (fun i H' => Ext H H' ∧ H' D = some (.lst (((xs.take i).filter b).map f))) ⟨Ext.upd hD, upd_same⟩ (fun i H' _ pv => SqL.of (pv.1 _ _ hx)) (fun i x H' hi pv => turn D hD i x H' hi pv) (fun H' pv => fin D hD H' pv)⟩
  · refine .inr ⟨⟨xs, SqT.of hx⟩, fun D hD => lc_tup (xs := xs) (fun i H' => Ext H H' ∧ H' D = some (.lst (((xs.take i).filter b).map f))) ⟨Ext.upd hD, upd_same⟩ (fun i H' _ pv => SqT.of (pv.1 _ _ hx)) (fun i x H' hi pv => turn D hD i x H' hi pv) (fun H' pv => fin D hD H' pv)⟩
end
theorem filter_all {α : Type} (l : List α) : l.filter (fun _ => true) = l := List.filter_eq_self.mpr fun _ _ => rfl
end L2

set_option Elab.async false
set_option maxRecDepth 100000
set_option maxHeartbeats 4000000
/-! enumerate over a list or a tuple -/
namespace PySem
open Sem (wp)
/-- the maker of enumerate, handed one thing whose iterator is told -/
theorem en1_meets {v : Value} {ob : Obj} {HP : Heap → Prop} (BG : Begins v ob HP) :
    Meets (Builtin.«enumerate.__new__» ⟨[.type "enumerate", v], []⟩) (fun _ RR sh => HP sh.heap ∧
      RR (.ok (.ret (.ref (sh.heap.push ob).objs.size)))
        { sh with heap := (sh.heap.push ob).push { cls := .type "enumerate", data := .fields #[.none, .bool false, .ref sh.heap.objs.size, rawInt 0, .none, .none] } }) :=
  .of_wp fun pr ww AA RR sh hh => by
    obtain ⟨hp, gg, dd, tk, os⟩ := sh
    obtain ⟨hh1, hh⟩ := hh
    have sub1 := sub_enumerate
    have begin1 : ∀ {A1 : Around} {E1 Q1 : Value → Shared → Prop}, Q1 (.ref hp.objs.size) ⟨hp.push ob, gg, dd, tk, os⟩ →
        wpAny (model pr ww) A1 (pyIter v) Q1 E1 ⟨hp, gg, dd, tk, os⟩ :=
      fun qq => BG.iter pr ww _ _ ⟨hp, gg, dd, tk, os⟩ _ hh1 qq
    wp_walk using begin1
    refine wpAny_stack_any fun sta => wpAny_pure ?_
    split
    · rename_i cc _ _ _ _ _
      cases (cc == Value.type "enumerate")
      all_goals
        wp_walk using begin1
        exact ⟨_, rfl, hh⟩
    · wp_walk using begin1
      exact ⟨_, rfl, hh⟩
section
variable {pr : Program} {ww : World} {AA : Around} {EE : Value → Shared → Prop} {sh : Shared}
theorem en1_call {v : Value} {ob : Obj} {HP : Heap → Prop} {QQ : Value → Shared → Prop} (BG : Begins v ob HP) (hh : HP sh.heap)
    (kk : ∀ h1, IsEnum h1 (sh.heap.objs.size + 1) sh.heap.objs.size 0 .none → h1.get? sh.heap.objs.size = some ob →
      (∀ x y, sh.heap.get? x = some y → h1.get? x = some y) → QQ (.ref (sh.heap.objs.size + 1)) { sh with heap := h1 }) :
    wpAny (model pr ww) AA (call (.type "enumerate") [v]) QQ EE sh := by
  refine callType_new F.called_enumerate (by decide) (F.typeCall_enumerate_1 _) (F.newCall_enumerate_1 _) (fun oo => F.args_object_init_2 oo _) F.entry_enumerate_new (en1_meets BG) ⟨hh, ?_⟩
  have sz : (sh.heap.push ob).objs.size = sh.heap.objs.size + 1 := Heap.size_push ..
  show _ ∧ _
  rw [sz]
  have en : IsEnum ((sh.heap.push ob).push { cls := .type "enumerate", data := .fields #[.none, .bool false, .ref sh.heap.objs.size, rawInt 0, .none, .none] })
      (sh.heap.objs.size + 1) sh.heap.objs.size 0 .none := by
    have qq := Heap.get?_push_size (sh.heap.push ob) (o := { cls := .type "enumerate", data := .fields #[.none, .bool false, .ref sh.heap.objs.size, rawInt 0, .none, .none] }) rfl
    rw [sz] at qq
    exact qq
  exact ⟨⟨_, en, rfl⟩, kk _ en (Heap.get?_push_of_some _ (Heap.get?_push_size _ BG.free)) fun x y hx => Heap.get?_push_of_some _ (Heap.get?_push_of_some _ hx)⟩
end
end PySem
namespace L2
open PySem PySem.Spec PyProof.Rows
/-- the tuple at a, each item in a new pair with its place -/
def Itet (K : PySem.W.Frag) (a : Addr) : It :=
  ⟨fun i H => ∃ xs : List V, SqT K H a xs ∧ i < xs.length,
    fun i H v H' => ∃ T x, v = .ref T ∧ H T = none ∧ H' = upd H T (.tup [.int (i : Nat), x]) ∧ ∀ xs, SqT K H a xs → xs[i]? = some x,
    fun i H => ∃ xs : List V, SqT K H a xs ∧ xs.length = i⟩
theorem turn_enT {P : Program} {w : World} {K : PySem.W.Frag} {elts : List Expr} {kk : Nat} {tpos : Pos} (a e it : Addr) (hea : e ≠ a) (hia : a ≠ it) :
    Turn P w K (.Tuple elts kk tpos) (Itet K a) [e, it] e (fun i h => (∃ old, IsEnum h e it ((i : Nat) : Int) old) ∧ h.IsTupleIter it a i ∧ e ≠ it) where
  mem := List.mem_cons_self
  obj := fun i h st b hb => by
    obtain ⟨⟨old, he⟩, ⟨o, ho, _, hd⟩, _⟩ := st
    rcases List.mem_cons.mp hb with z | z
    · subst z
      exact ⟨_, he, fun v q => nomatch q⟩
    · have z' := List.mem_singleton.mp z
      subst z'
      exact ⟨o, ho, fun v q => by rw [hd] at q; cases q⟩
  keep := fun i h h' st k => by
    obtain ⟨⟨old, he⟩, hi, hne⟩ := st
    exact ⟨⟨old, k e List.mem_cons_self _ he⟩, hi.at fun o q => k it (List.mem_cons_of_mem _ (List.mem_singleton.mpr rfl)) o q, hne⟩
  item := by
    intro X hP hw hK hc i pins s σ H E I hf st hg
    subst hP hw hK
    obtain ⟨⟨old, he⟩, hit, hne⟩ := st
    obtain ⟨xs, hq, hx⟩ := hg
    obtain ⟨its, rv, p, hz⟩ := I.tuple hq
    have hl := rv.length
    have hel : e < s.heap.objs.size := Heap.lt_size he
    have hil : it < s.heap.objs.size := by
      obtain ⟨_, q, _⟩ := hit
      exact Heap.lt_size q
    have D := Draws.tuple (prog := X.prog) (w := X.w) (A := X.A.in1) (show X.A.in1.handled = none from I.ok.hd hc) it a hia its.toArray
    refine wpAny_pyNext_enum_itemC D he (i := i) ⟨hit, p⟩ (by simp; omega) hne (by simp [hne, hea]) fun u h' tk hP ho hst' hT hsz hk => ?_
    have hu : its[i]? = some u := by simpa using hP
    obtain ⟨x, hxx⟩ : ∃ x, xs[i]? = some x := ⟨_, List.getElem?_eq_getElem hx⟩
    obtain ⟨u', hu', ru'⟩ := rv.get hxx
    have eu : u' = u := Option.some.inj (hu'.symm.trans hu)
    subst eu
    refine ⟨_, rfl, wpAny_letOwnedTupleGo_enum (s := { s with heap := h', toks := tk + 1 }) ho fun h2 he2 sb => ?_⟩
    have hT2 : h2.get? s.heap.objs.size = some { cls := .type "tuple", data := .seq #[.int i tk, u'] } := (sb.2 _ (Nat.ne_of_gt hel)).trans hT
    have new : ObjOk X.prog X.w (upd H s.heap.objs.size (.tup [.int (i : Nat), x])) h2 s.heap.objs.size (.tup [.int (i : Nat), x]) := by
      refine ⟨?_, [.int i tk, u'], .cons ⟨_, rfl⟩ (.cons ru' .nil), ⟨_, hT2, rfl, _, rfl⟩⟩
      show 2 ≤ sizeLine
      decide
    have I1 : Inv X pins σ (upd H s.heap.objs.size (.tup [.int (i : Nat), x])) { s with heap := h2, toks := tk + 1 } := by
      refine I.turnedNew (ch := [e, it]) (fun b ob hb q => ?_) hf (Nat.le_refl _) new
      have b1 : b ≠ e := fun z => hb (by simp [z])
      have b2 : b ≠ it := fun z => hb (by simp [z])
      exact (sb.2 b b1).trans (hk b ob b1 b2 q)
    refine ⟨.ref s.heap.objs.size, _, I1, rfl, ⟨_, x, rfl, I.hok.fresh (Nat.le_refl _), rfl, fun ys hy => ?_⟩, ⟨⟨u', ?_⟩, hst'.1.at fun o q => (sb.2 it (Ne.symm hne)).trans q, hne⟩, fun b hb => ?_⟩
    · obtain ⟨its2, rv2, p2, _⟩ := I.tuple hy
      rw [I.tuple_inj hy hq]
      exact hxx
    · have e1 : ((i + 1 : Nat) : Int) = (i : Int) + 1 := rfl
      rw [e1]
      exact he2
    · have hb' : b < s.heap.objs.size := by
        rcases List.mem_cons.mp hb with z | z
        · rw [z]
          exact hel
        · rw [List.mem_singleton.mp z]
          exact hil
      rw [upd_ne (Nat.ne_of_lt hb')]
      exact (hf b hb).1
  done := by
    intro X hP hw hK hc i pins s σ H E I hf st hg
    subst hP hw hK
    obtain ⟨⟨old, he⟩, hit, hne⟩ := st
    obtain ⟨xs, hq, hx⟩ := hg
    obtain ⟨its, rv, p, hz⟩ := I.tuple hq
    have hl := rv.length
    obtain ⟨f0, f1, f2, f3, f4, f5⟩ := hf it (List.mem_cons_of_mem _ (List.mem_singleton.mpr rfl))
    have D := Draws.tuple (prog := X.prog) (w := X.w) (A := X.A.in1) (show X.A.in1.handled = none from I.ok.hd hc) it a hia its.toArray
    have ei : i = its.toArray.size := by simp; omega
    refine wpAny_pyNext_enum_endD D he (by rw [← ei]; exact ⟨hit, p⟩) fun h' eb => ⟨rfl, ?_⟩
    exact I.turned (t' := s.toks) (fun b o hb q => eb b o hb q) f0 f1 f3 f4 f5
  self := fun A i s Q E st h => by
    obtain ⟨⟨_, he⟩, _⟩ := st
    exact wpAny_pyIter_enum he h
/-- a list or a tuple is walked with the places -/
def iEnSq (K : PySem.W.Frag) (ta : TA) : TI := fun σ H R => ta σ H fun vs H1 => ∃ a, vs = [.ref a] ∧ (((∃ xs, SqL K H1 a xs) ∧ R (Ite K a) H1) ∨ ((∃ xs, SqT K H1 a xs) ∧ R (Itet K a) H1))
theorem pi_enSq {X : Cx} {e : Expr} {ta : TA} {p pos tpos : Pos} {elts : List Expr} {kk : Nat} (hg : Gl X "enumerate") (hm : X.mg "enumerate" = none) (ha : PA X [e] ta) (hs : starEach [e] X.env = [(false, eval e X.env)] := by rfl) :
    PI X (.Tuple elts kk tpos) (.Call (.Name "enumerate" p) [e] [] pos) (iEnSq X.K ta) := by
  refine ⟨fun pins s σ H R I h => ?_⟩
  refine Call_ (ld_blt I hg hm boot_enumerate (PyProof.Rows.callWith_type1 (thn (ha.run pos pins s σ H _ I h) fun us s1 ⟨vs, H1, I1, r1, q1⟩ => ?_) hs rfl))
  obtain ⟨a, ex, q1⟩ := q1
  subst ex
  obtain rfl := Vals.ref1 r1
  have two : ∀ b, b ∈ [s1.heap.objs.size + 1, s1.heap.objs.size] → s1.heap.objs.size ≤ b := fun b hb => by
    rcases List.mem_cons.mp hb with z | z
    · rw [z]
      exact Nat.le_add_right _ _
    · rw [List.mem_singleton.mp z]
      exact Nat.le_refl _
  rcases q1 with ⟨⟨xs, hq⟩, q⟩ | ⟨⟨xs, hq⟩, q⟩
  · obtain ⟨its, rv, p', hz⟩ := I1.list hq
    refine en1_call (begins_list a its.toArray) p'.isList fun h' he hit hk => wpAny_pyIter_enum he ?_
    have I2 : Inv X pins σ H1 { s1 with heap := h' } := I1.kept (t' := s1.toks) hk
    refine ⟨s1.heap.objs.size + 1, [s1.heap.objs.size + 1, s1.heap.objs.size], _, _, H1, rfl, I2, turn_enum a (s1.heap.objs.size + 1) s1.heap.objs.size, ⟨⟨.none, he⟩, ⟨_, hit, rfl, rfl⟩, Nat.succ_ne_self _⟩, fun b hb => ?_, q⟩
    exact I1.fpOk (two b hb) (I1.hok.fresh (two b hb))
  · obtain ⟨its, rv, p', hz⟩ := I1.tuple hq
    have hlt : a < s1.heap.objs.size := by
      obtain ⟨o, ho, _⟩ := (show s1.heap.IsTuple a its.toArray from p')
      exact Heap.lt_size ho
    refine en1_call (begins_tuple a its.toArray) p' fun h' he hit hk => wpAny_pyIter_enum he ?_
    have I2 : Inv X pins σ H1 { s1 with heap := h' } := I1.kept (t' := s1.toks) hk
    refine ⟨s1.heap.objs.size + 1, [s1.heap.objs.size + 1, s1.heap.objs.size], _, _, H1, rfl, I2, turn_enT a (s1.heap.objs.size + 1) s1.heap.objs.size (Nat.ne_of_gt (Nat.lt_succ_of_lt hlt)) (Nat.ne_of_lt hlt), ⟨⟨.none, he⟩, ⟨_, hit, rfl, rfl⟩, Nat.succ_ne_self _⟩, fun b hb => ?_, q⟩
    exact I1.fpOk (two b hb) (I1.hok.fresh (two b hb))
section
variable {K : PySem.W.Frag} {a : Addr} {xs : List V}
theorem walk_enT : Walk (Itet K a) xs.length (fun H => SqT K H a xs) (YPair (fun i => some (.int (i : Nat))) (fun i => xs[i]?)) := by
  refine ⟨fun i _ hi q => ⟨xs, q, hi⟩, fun _ q => ⟨xs, q, rfl⟩, fun i H v H' _ q y => ?_⟩
  obtain ⟨T, x, e1, e2, e3, e4⟩ := y
  exact ⟨T, .int (i : Nat), x, e1, e2, e3, rfl, e4 xs q⟩
/-- the turns of an end: what goes on is N -/
def turnsOf (g : TG) (tb : TS) (D : Ends) (σ : St) (J : It) (H : Hp) : Prop := ∃ W : Nat → Nat → St → Hp → Prop, (∃ m, W 0 m σ H) ∧ ∀ i m σ H, W i m σ H →
  (J.stop i H ∧ D.nx σ H) ∨ (J.go i H ∧ ∃ N : St → Hp → Prop, (∀ σ' H', N σ' H' → ∃ m', m' < m ∧ W (i + 1) m' σ' H') ∧ ∀ x H', J.yld i H x H' → g x σ H' fun σ2 H2 => tb { D with nx := N, ct := N, bk := D.nx } σ2 H2)
theorem for_enSq {g : TG} {tb : TS} {D : Ends} {σ : St} {H : Hp} (hx : SqL K H a xs ∨ SqT K H a xs) (Pv : Nat → St → Hp → Prop) (h0 : Pv 0 σ H) (hE : ∀ i σ' H', Pv i σ' H' → Ext H H')
    (hs : ∀ i x σ' H' T, xs[i]? = some x → Pv i σ' H' → H' T = none → g (.ref T) σ' (upd H' T (.tup [.int (i : Nat), x])) fun σ2 H2 => tb { D with nx := Pv (i + 1), ct := Pv (i + 1), bk := D.nx } σ2 H2) (hd : ∀ σ' H', Pv xs.length σ' H' → D.nx σ' H') :
    ((∃ xs, SqL K H a xs) ∧ turnsOf g tb D σ (Ite K a) H) ∨ ((∃ xs, SqT K H a xs) ∧ turnsOf g tb D σ (Itet K a) H) := by
  have step : ∀ i x σ' H' H'', i < xs.length → Pv i σ' H' → YPair (fun i => some (V.int (i : Nat))) (fun i => xs[i]?) i H' x H'' → g x σ' H'' fun σ2 H2 => tb { D with nx := Pv (i + 1), ct := Pv (i + 1), bk := D.nx } σ2 H2 := by
    rintro i v σ' H' H'' hi pv ⟨T, x, y, rfl, hT, rfl, hx', hy⟩
    cases hx'
    exact hs i y σ' H' T hy pv hT
  rcases hx with hx | hx
  · exact .inl ⟨⟨xs, hx⟩, for_it (walk_enum (xs := xs)) Pv h0 (fun i σ' H' _ pv => hx.ext (hE i σ' H' pv)) step hd⟩
  · exact .inr ⟨⟨xs, hx⟩, for_it (walk_enT (xs := xs)) Pv h0 (fun i σ' H' _ pv => hx.ext (hE i σ' H' pv)) step hd⟩
end
end L2

set_option Elab.async false
set_option maxRecDepth 100000
set_option maxHeartbeats 4000000
/-! values told by the data that they hold -/
namespace L2
open PySem PySem.Spec PyProof.Rows
/-- the type's name -/
def tnD : PyData → String
  | .none => "NoneType" | .bool _ => "bool" | .int _ => "int" | .str _ => "str" | .list _ => "list" | .tuple _ => "tuple" | .dict _ => "dict"
def isIntD : PyData → Bool | .int _ => true | .bool _ => true | _ => false
def isBoolD : PyData → Bool | .bool _ => true | _ => false
def isTupD : PyData → Bool | .tuple _ => true | _ => false
def isListD : PyData → Bool | .list _ => true | _ => false
def isStrD : PyData → Bool | .str _ => true | _ => false
def isSeqD : PyData → Bool | .list _ => true | .tuple _ => true | _ => false
def isNoneD : PyData → Bool | .none => true | _ => false
/-- the int that it is, no truth -/
def betD (d : PyData) (a b : Int) : Bool := match d with
  | .int n => decide (a ≤ n) && decide (n ≤ b)
  | _ => false
def lenD : PyData → Nat | .list ds => ds.length | .tuple ds => ds.length | _ => 0
section
variable {K : PySem.W.Frag} {H H' : Hp} {v : V} {d : PyData}
theorem dp_ty (h : Dp K H v d) : TyX K H v (.type (tnD d)) := by
  cases h with
  | non => exact .base .non
  | bl b => exact .base (.bl b)
  | int i => exact .base (.int i)
  | str s => exact .base (.str s)
  | lst hs _ =>
    rcases hs with (h | ⟨o, h⟩) | ⟨o, its, n, e, c, _⟩
    · exact .base (.lst h)
    · exact .base (.frz h)
    · exact .kList e c
  | tup hs _ =>
    rcases hs with (h | ⟨o, h⟩) | ⟨o, its, n, e, c, _⟩
    · exact .base (.tup h)
    · exact .fTuple h
    · exact .kTuple e c
theorem kd_int : PySem.W.kitOne K (.type (tnD d)) (.type "int") = some (isIntD d) := by cases d <;> exact kit_ty (by dsimp only [tnD, isIntD]; decide +kernel)
theorem kd_bool : PySem.W.kitOne K (.type (tnD d)) (.type "bool") = some (isBoolD d) := by cases d <;> exact kit_ty (by dsimp only [tnD, isBoolD]; decide +kernel)
theorem kd_tup : PySem.W.kitOne K (.type (tnD d)) (.type "tuple") = some (isTupD d) := by cases d <;> exact kit_ty (by dsimp only [tnD, isTupD]; decide +kernel)
theorem kd_list : PySem.W.kitOne K (.type (tnD d)) (.type "list") = some (isListD d) := by cases d <;> exact kit_ty (by dsimp only [tnD, isListD]; decide +kernel)
theorem kd_seq : PySem.W.kitAny K (.type (tnD d)) [.type "list", .type "tuple"] = some (isSeqD d) := by
  unfold PySem.W.kitAny
  rw [kd_list]
  unfold PySem.W.kitAny
  rw [kd_tup]
  cases d <;> rfl
theorem kd_find : (fastFind? (tnD d)).isSome = true := by cases d <;> (dsimp only [tnD]; decide +kernel)
mutual
theorem dp_ext (e : Ext H H') : ∀ (d : PyData) (v : V), Dp K H v d → Dp K H' v d
  | .none, _, h => by cases h; exact .non
  | .bool _, _, h => by cases h; exact .bl _
  | .int _, _, h => by cases h; exact .int _
  | .str _, _, h => by cases h; exact .str _
  | .list ds, _, h => by
    cases h with
    | lst hs ha => exact .lst (hs.ext e) (dps_ext e ds _ ha)
  | .tuple ds, _, h => by
    cases h with
    | tup hs ha => exact .tup (hs.ext e) (dps_ext e ds _ ha)
  | .dict _, _, h => by cases h
theorem dps_ext (e : Ext H H') : ∀ (ds : List PyData) (vs : List V), DpAll K H vs ds → DpAll K H' vs ds
  | [], _, h => by cases h; exact .nil
  | d :: ds, _, h => by
    cases h with
    | cons h1 h2 => exact .cons (dp_ext e d _ h1) (dps_ext e ds _ h2)
end
theorem dps_len : ∀ {vs : List V} {ds : List PyData}, DpAll K H vs ds → vs.length = ds.length
  | [], _, h => by cases h; rfl
  | v :: vs, _, h => by
    cases h with
    | cons _ h2 => exact congrArg Nat.succ (dps_len h2)
theorem dps_get : ∀ {vs : List V} {ds : List PyData} {i : Nat} {v : V}, DpAll K H vs ds → vs[i]? = some v → ∃ d, ds[i]? = some d ∧ Dp K H v d
  | [], _, _, _, _, e => by cases e
  | v :: vs, _, i, _, h, e => by
    cases h with
    | @cons _ _ d ds h1 h2 =>
      cases i with
      | zero => cases e; exact ⟨d, rfl, h1⟩
      | succ i => exact dps_get (i := i) h2 e
theorem bet_int {n a b : Int} : betD (.int n) a b = (decide (a ≤ n) && decide (n ≤ b)) := rfl
theorem bet_not {a b : Int} (h : (isIntD d && !isBoolD d) = false) : betD d a b = false := by cases d <;> first | rfl | cases h
theorem bet_yes {a b : Int} (h : betD d a b = true) : ∃ n, d = .int n ∧ a ≤ n ∧ n ≤ b := by
  cases d <;> first | (rw [bet_int, Bool.and_eq_true, decide_eq_true_eq, decide_eq_true_eq] at h; exact ⟨_, rfl, h.1, h.2⟩) | cases h
theorem int_yes (h : (isIntD d && !isBoolD d) = true) : ∃ n, d = .int n := by cases d <;> first | exact ⟨_, rfl⟩ | cases h
theorem dp_int {n : Int} (h : Dp K H v (.int n)) : v = .int n := by cases h; rfl
theorem dp_seq (h : Dp K H v d) (hs : isSeqD d = true) : ∃ (a : Addr) (xs : List V) (ds : List PyData), v = .ref a ∧ (SqL K H a xs ∨ SqT K H a xs) ∧ DpAll K H xs ds ∧ (d = .list ds ∨ d = .tuple ds) := by
  cases h with
  | lst h ha => exact ⟨_, _, _, rfl, .inl h, ha, .inl rfl⟩
  | tup h ha => exact ⟨_, _, _, rfl, .inr h, ha, .inr rfl⟩
  | _ => cases hs
theorem dp_tup (h : Dp K H v d) (hs : isTupD d = true) : ∃ (a : Addr) (xs : List V) (ds : List PyData), v = .ref a ∧ SqT K H a xs ∧ DpAll K H xs ds ∧ d = .tuple ds := by
  cases h with
  | tup h ha => exact ⟨_, _, _, rfl, h, ha, rfl⟩
  | _ => cases hs
end
/-! ### own methods, called -/
section
variable {X : Cx} {CX : CXT} {m : Str} {k : Nat} {ps : List Str} {sp : Sp} {e o : Expr} {es : List Expr} {t : TA} {ta : TE} {pos apos : Pos} {C : Addr}
theorem pe_ownM0 {pl : Sem Bool} (O : OwnM X.prog X.w X.K X.mg X.base CX C m k ps sp) (he : PE X o ta) (c : Cls X.K C) (hr : Room k X.A) (hx : Passes CX X E0)
    (ht : eval (.Call (.Attribute o m apos) [] [] pos) X.env = (do
      let ov ← eval o X.env
      standAt apos.atName
      let (f, first) ← holding [ov] (getMethod ov m pl)
      callWith pos f first (backTo pos (starEach [] X.env)) (backToKw pos (keywordEach [] X.env))) := by rfl) :
    PE X (.Call (.Attribute o m apos) [] [] pos) (tMeth C m sp [] E0 ta tNil) := by
  obtain ⟨f, fd, F, M, _, hb⟩ := O.ex
  exact pe_meth0 he c M F hr hb .nil hx ht
theorem pe_ownM {pl : Sem Bool} (O : OwnM X.prog X.w X.K X.mg X.base CX C m k ps sp) (he : PE X o ta) (c : Cls X.K C) (hr : Room k X.A) (hx : Passes CX X E0) (ha : PA X (e :: es) t)
    (hst : starEach (e :: es) X.env = (false, eval e X.env) :: starEach es X.env := by rfl) (hpl : (backTo pos (starEach es X.env)).any (·.1) = false := by rfl)
    (ht : eval (.Call (.Attribute o m apos) (e :: es) [] pos) X.env = (do
      let ov ← eval o X.env
      standAt apos.atName
      let (f, first) ← holding [ov] (getMethod ov m pl)
      callWith pos f first (backTo pos (starEach (e :: es) X.env)) (backToKw pos (keywordEach [] X.env))) := by rfl) :
    PE X (.Call (.Attribute o m apos) (e :: es) [] pos) (tMeth C m sp [] E0 ta t) := by
  obtain ⟨f, fd, F, M, _, hb⟩ := O.ex
  exact pe_meth he c M F hr hb .nil hx ha hst hpl ht
end
end L2

set_option Elab.async false
set_option maxRecDepth 100000
set_option maxHeartbeats 4000000
/-! defs that are handed the error that the suite holds; classes made with defaults -/
namespace L2
open PySem PySem.Spec PyProof.Rows
section
variable {X : Cx}
/-- isinstance(e, c), e the held error, anywhere that it is pinned -/
theorem call_isEP {a D : Addr} {cls : Value} {d : Option Addr} {oe : Obj} (hpn : (a, oe) ∈ X.pn) (C : ExcC X.K D) (hz : Zc cls d oe) (hf : ∃ vs, oe.data = .fields vs) : CallR X (.builtin "isinstance") (rIsED X.K D a cls d) := by
  intro pins s σ H xs us Q I r h
  obtain ⟨ec0, hdd, c, cv, b, rfl, hcv, e, q⟩ := h
  subst ec0
  cases r with
  | cons rx rr =>
    cases rr with
    | cons rt rr =>
      cases rr
      cases rx
      have ec := hcv _ rt
      subst ec
      obtain ⟨hget, _⟩ := I.pin (a, oe) (List.mem_append.mpr (.inl hpn))
      obtain ⟨vs, hv⟩ := hf
      have J : ∃ od, PySem.W.InstAt s.heap a oe D od := by
        obtain ⟨oc, od, oda, osl⟩ := oe
        obtain ⟨h1, h2⟩ := hz
        dsimp only at h1 h2 hv
        subst h1 h2 hv
        cases od with
        | none => exact ⟨none, hget, rfl, rfl, trivial⟩
        | some dd =>
          obtain ⟨fs, hfs⟩ := hdd dd rfl
          obtain ⟨mA, hns, _⟩ := (show ObjOk X.prog X.w H s.heap dd (.xd fs) from I.hok dd _ hfs)
          obtain ⟨od, ho, _⟩ := lookIn_ns hns
          exact ⟨some od, hget, rfl, rfl, ho⟩
      exact PySem.W.kia_one (PySem.W.kitx_excD C) I.kIn J e (fun z => nomatch z) fun tk => ⟨.bl b, H, I.kept (t' := tk) fun _ _ z => z, rfl, q⟩
/-- e.f of it -/
theorem pe_xfP {a C : Addr} {oe : Obj} {cls : Value} {d : Option Addr} {e : Expr} {te : TE} {pos : Pos} {n : Str} (hpn : (a, oe) ∈ X.pn) (T : XfC X.K C) (hno : PySem.W.findIn X.K (.ref C) n = some none)
    (hz : Zc cls d oe) (hf : ∃ vs, oe.data = .fields vs) (he : PE X e te) (hb : attributeBase e n X.env (eval e X.env) = eval e X.env := by rfl) :
    PE X (.Attribute e n pos) (tXf a cls d C n te) := by
  refine ⟨fun pins s σ H Q I h => attr_of hb (thn (he.run pins s σ H _ I h) fun u s1 hh => ?_)⟩
  obtain ⟨x, H1, I1, rx, ex, ec, dd, fs, v, ed, ea, l, q⟩ := hh
  subst ex ec ed
  obtain rfl : u = Value.ref a := rx
  obtain ⟨hget, _⟩ := I1.pin (a, oe) (List.mem_append.mpr (.inl hpn))
  obtain ⟨vs, hv⟩ := hf
  obtain ⟨mA, hns, hr⟩ := (show ObjOk X.prog X.w H1 s1.heap dd (.xd fs) from I1.hok dd _ ea)
  obtain ⟨od, ho, hl⟩ := lookIn_ns hns
  obtain ⟨uu, hu, ru⟩ := RelO.some_of (v := v) (o := mA n) (by rw [← l]; exact hr n)
  have ncls : PySem.W.notCls oe = true := by
    unfold PySem.W.notCls
    rw [hv] <;> rfl
  have J : PySem.W.InstAt s1.heap a oe C (some od) := ⟨hget, hz.1, ncls, by rw [hz.2]; exact ho⟩
  have fo := PySem.W.findObj_own T.hdC hno (od := od) rfl (by rw [hl, hu])
  exact HandSPX.exc_get I1.kIn J T.ga T.gg T.exC fo (handed_of ru) ⟨v, H1, I1.tok _, ru, q⟩
end
end L2
namespace L2H
open PySem PySem.Spec PyProof.Rows L2 HotX
/-- such a def: its promise speaks of the held error, too -/
structure FnE (P : Program) (w : World) (K : PySem.W.Frag) (mg : Str → Option Value) (base : Heap) (CX : CXT) (k : Nat) (f : Addr) (fd : FuncData) (ps : List Str) (sp : Addr × Obj → Sp) : Prop where
  len : ∀ p vs H Q E, sp p vs H Q E → vs.length = ps.length
  run : ∀ (p : Addr × Obj) (AA : Around) (outer : List Env) (sh : Shared) (H : Hp) (args : Args) (us : List Value) (vs : List V) (Q : VK) (E : XK), RoomH k AA → PinOk outer H sh p → Env0 P w K mg base AA outer sh H →
    BindsTo sh fd args (ps.zip us) → Vals vs us → sp p vs H Q E → codeAny (model P w) AA (.call (.ref f) args) (CR CX outer P w H sh Q E) sh
section
variable {CX : CXT} {P : Program} {w : World} {K : PySem.W.Frag} {mg : Str → Option Value} {base : Heap} {k : Nat} {f : Addr} {fd : FuncData} {x qual : Str} {st : Stmt} {N ps : List Str} {sp : Addr × Obj → Sp}
theorem fnE_of (F : Fun K x qual st f fd) (S : FnScope N ps (defScope st)) (len : ∀ p vs H Q E, sp p vs H Q E → vs.length = ps.length)
    (hbody : ∀ (p : Addr × Obj) (cdv : Value) (AA : Around) (outer : List Env) (sh : Shared) (H : Hp) (vs : List V) (Q : VK) (E : XK), RoomH k (AA.deeper (envOfC qual (defScope st) sh.heap.objs.size f cdv)) → sp p vs H Q E →
      ∃ t, PSs (cxH CX P w K mg base N qual (defScope st) f cdv AA outer sh H E p) (defBody st) t ∧ t { nx := fun _ H' => Q .non H', rt := Q } (L2.start N vs) H) : FnE P w K mg base CX (k + 1) f fd ps sp := by
  obtain ⟨oc, od, kV, doc, pm, an, cdv, ct, osl, rfl, lk, hcd⟩ := F.ex
  refine ⟨len, fun p AA outer sh H args us vs Q E hr hpin e0 hb r hsp => ?_⟩
  have hl := len _ _ _ _ _ hsp
  have KX : K.In sh.heap := e0.mod.kin.keeps fun b o e => (e0.bs b o e).1
  have lim : sh.heap.NoLimit := e0.mod.nolimit.keeps fun b o e => (e0.bs b o e).1
  have binds : ∀ y ∈ ps.zip us, (defScope st).names.lookup y.1 = some .local ∨ ((defScope st).names.lookup y.1 = some .cell ∧ ((cellsFrom (sh.heap.objs.size + 1) (defScope st).names []).lookup y.1).isSome = true) := by
    rintro ⟨n, v⟩ hy
    rcases S.par n (List.of_mem_zip hy).1 with q | q
    · exact .inl q
    · exact .inr ⟨q, PySem.W.cellsFrom_some _ _ _ (.inl q)⟩
  refine codeAny_call_function hr.depth (KX _ _ lk) rfl S.co S.gen rfl (PySem.W.codeRec_of KX hcd) (hb _ _ _ _ ?_)
  refine wpAny_newFunctionEnv_cells S.kind binds fun env he s1 xx => ?_
  subst he
  refine ⟨lim.keeps xx.toInCall.keep, codeAny_func ?_⟩
  obtain ⟨t, ht, hq⟩ := hbody p cdv AA outer sh H vs Q E (hr.deeper _) hsp
  have I := inv_startH (CX := CX) (E := E) S hpin e0 hl r xx
  refine wpAny_mono (ht.run [] s1 (L2.start N vs) H _ I hq) (fun fl s' hs => ?_) fun _ _ hs => hs
  cases fl with
  | ret u =>
    obtain ⟨v, σ', H', J, rv, q⟩ := hs
    exact ⟨v, H', J.os, J.bare, J.base, J.hok, rv, q⟩
  | next =>
    obtain ⟨σ', H', J, q⟩ := hs
    exact ⟨V.non, H', J.os, J.bare, J.base, J.hok, rfl, q⟩
  | brk =>
    obtain ⟨_, _, _, q⟩ := hs
    exact q.elim
  | cont =>
    obtain ⟨_, _, _, q⟩ := hs
    exact q.elim
end
section
variable {X : Cx} {CX : CXT} {k : Nat} {f : Addr} {fd : FuncData} {ps : List Str} {sp : Addr × Obj → Sp} {x : Str} {q pos : Pos} {e : Expr} {es : List Expr} {t : TA} {p : Addr × Obj}
/-- f(e, ..) in the suite that holds p -/
theorem pe_callE (F : FnE X.prog X.w X.K X.mg X.base CX k f fd ps sp) (hr : RoomH k X.A) (hp : p ∈ X.pn) (hg : Gl X x) (hm : X.mg x = some (.ref f)) (hk : PySem.W.keepIn X.K (.ref f) = true) (hb : Binds X.K fd ps []) (hx : Passes CX X E0)
    (ha : PA X (e :: es) t) (hdb : (x == ("__debug__" : Str)) = false := by decide) (he : starEach (e :: es) X.env = (false, eval e X.env) :: starEach es X.env := by rfl) (hpl : (backTo pos (starEach es X.env)).any (·.1) = false := by rfl) :
    PE X (.Call (.Name x q) (e :: es) [] pos) (tCall (sp p) [] E0 t) := by
  refine ⟨fun pins s σ H Q I h => wpAny_Call_Name_kw (ld_glob I hg hm ?_ hdb)⟩
  refine PySem.W.callWith_K (h₀ := X.base) I.ok.mod.kin hk (thn (ha.run pos pins s σ H _ I h) fun us s1 ⟨vs, H1, I1, r, hsp⟩ => ⟨I1.kIn, ?_⟩) he hpl
  have hsp : sp p vs H1 Q E0 := by
    have z : sp p (vs ++ []) H1 Q E0 := hsp
    rwa [List.append_nil] at z
  have hl : us.length = ps.length := by
    rw [← r.length]
    exact F.len _ _ _ _ _ hsp
  have bd := hb s1 us I1.kIn (by rw [List.append_nil]; exact hl)
  rw [List.append_nil] at bd
  have P1 := I1.pin p (List.mem_append.mpr (.inl hp))
  have hpin : PinOk X.stack H1 s1 p := ⟨P1.1, P1.2.1, fun hm => (List.mem_cons.mp (I1.stkSub p.1 hm)).elim P1.2.2.1 P1.2.2.2.1, P1.2.2.2.2⟩
  refine wpAny_call (codeAny_mono (F.run p X.A X.stack s1 H1 ⟨us, []⟩ us vs Q E0 hr hpin I1.env0 bd r hsp) fun rr s' hq => ?_)
  match rr, hq with
  | .error ee, hq => exact hx pins σ H1 s1 ee s' I1 hq
  | .ok (.ret u), hq => exact I1.after hq
  | .ok .next, hq => exact hq.elim
  | .ok .brk, hq => exact hq.elim
  | .ok .cont, hq => exact hq.elim
end
end L2H
namespace L2
open PySem PySem.Spec PyProof.Rows
/-- a class of the top whose __init__ has defaults, dvs those that fill up -/
structure OwnCD (P : Program) (w : World) (K : PySem.W.Frag) (mg : Str → Option Value) (base : Heap) (CX : CXT) (x : Str) (C : Addr) (k : Nat) (ps : List Str) (sp : Sp) (dvs : List V) : Prop where
  ex : ∃ (f : Addr) (fd : FuncData) (ds : List Value), FnOk P w K mg base CX k f fd ps sp ∧ Mk K C f ∧ mg x = some (.ref C) ∧ Binds K fd ps ds ∧ Vals dvs ds
section
variable {X : Cx} {CX : CXT} {x : Str} {k : Nat} {ps : List Str} {sp : Sp} {e : Expr} {es : List Expr} {t : TA} {p pos : Pos} {C : Addr} {dvs : List V}
theorem pe_newD (O : OwnCD X.prog X.w X.K X.mg X.base CX x C k ps sp dvs) (hr : Room (k + 1) X.A) (hx : Passes CX X E0) (ha : PA X (e :: es) t) (hg : Gl X x := by rfl) (hdb : (x == ("__debug__" : Str)) = false := by decide)
    (he : starEach (e :: es) X.env = (false, eval e X.env) :: starEach es X.env := by rfl) (hpl : (backTo pos (starEach es X.env)).any (·.1) = false := by rfl) : PE X (.Call (.Name x p) (e :: es) [] pos) (tMake C sp dvs E0 t) := by
  obtain ⟨f, fd, ds, F, M, hm, hb, hv⟩ := O.ex
  exact pe_make M F hr hg hm hb hv hx ha hdb he hpl
end
end L2

set_option Elab.async false
set_option maxRecDepth 100000
set_option maxHeartbeats 4000000
/-! a op b op c op d -/
namespace L2
open PySem PySem.Spec PyProof.Rows
def tCh3 (r r' r2 : R2) (ta tb tc td : TE) : TE := fun σ H Q => ta σ H fun x H1 => tb σ H1 fun y H2 => r x y H2 fun z H3 => ∃ k, z = .bl k ∧
  (if k = true then tc σ H3 fun u H4 => r' y u H4 fun z' H5 => ∃ k', z' = .bl k' ∧ (if k' = true then td σ H5 fun v H6 => r2 u v H6 Q else Q (.bl false) H5) else Q (.bl false) H3)
section
variable {X : Cx} {a b c d : Expr} {pos : Pos} {ta tb tc td : TE} {op op' op2 : CmpOp} {r r' r2 : R2}
theorem pe_chain3 (ho : OpR X (compareOp op) r) (ho' : OpR X (compareOp op') r') (ho2 : OpR X (compareOp op2) r2) (ha : PE X a ta) (hb : PE X b tb) (hc : PE X c tc) (hd : PE X d td)
    (hm : lastMarks [op, op', op2] [b, c, d] = false := by with_unfolding_all rfl) : PE X (.Compare a [op, op', op2] [b, c, d] pos) (tCh3 r r' r2 ta tb tc td) := by
  refine ⟨fun pins s σ H Q I h => ?_⟩
  refine Compare_chain (thn (ha.run pins s σ H _ I h) fun v s1 ⟨x, H1, I1, r1, q1⟩ => chain_link (thn (hb.run pins s1 σ H1 _ I1 q1) fun u s2 ⟨y, H2, I2, r2', q2⟩ =>
    thn (ho pins s2 σ H2 x y v u _ I2 r1 r2' q2) fun e s3 ⟨z, H3, I3, r3, k, ez, q3⟩ => ?_)) hm
  subst ez
  cases r3
  refine wpAny_truthy_bool ?_
  cases k with
  | false => exact ite_ff ⟨.bl false, H3, I3, rfl, q3⟩
  | true =>
    refine ite_tt (chain_link (thn (hc.run pins s3 σ H3 _ I3 q3) fun u2 s4 ⟨z4, H4, I4, r4, q4⟩ => thn (ho' pins s4 σ H4 y z4 u u2 _ I4 r2' r4 q4) fun e5 s5 ⟨z5, H5, I5, r5, k5, ez5, q5⟩ => ?_))
    subst ez5
    cases r5
    refine wpAny_truthy_bool ?_
    cases k5 with
    | false => exact ite_ff ⟨.bl false, H5, I5, rfl, q5⟩
    | true => exact ite_tt (chain_last (thn (hd.run pins s5 σ H5 _ I5 q5) fun u6 s6 ⟨z6, H6, I6, r6, q6⟩ => ho2 pins s6 σ H6 z4 z6 u2 u6 Q I6 r4 r6 q6))
theorem pt_chain3 (ho : OpR X (compareOp op) r) (ho' : OpR X (compareOp op') r') (ho2 : OpR X (compareOp op2) r2) (ha : PE X a ta) (hb : PE X b tb) (hc : PE X c tc) (hd : PE X d td)
    (hm : lastMarks [op, op', op2] [b, c, d] = false := by with_unfolding_all rfl) : PT X (.Compare a [op, op', op2] [b, c, d] pos) (tTest (tCh3 r r' r2 ta tb tc td)) := by
  refine ⟨fun pins s σ H Q I h => ?_⟩
  refine isTrue_chain (thn (ha.run pins s σ H _ I h) fun v s1 ⟨x, H1, I1, r1, q1⟩ => test_link (thn (hb.run pins s1 σ H1 _ I1 q1) fun u s2 ⟨y, H2, I2, r2', q2⟩ =>
    thn (ho pins s2 σ H2 x y v u _ I2 r1 r2' q2) fun e s3 ⟨z, H3, I3, r3, k, ez, q3⟩ => ?_)) hm
  subst ez
  cases r3
  refine wpAny_truthy_bool ?_
  cases k with
  | false =>
    obtain ⟨k', e', q'⟩ := q3
    cases e'
    exact ite_ff ⟨H3, I3, q'⟩
  | true =>
    refine ite_tt (test_link (thn (hc.run pins s3 σ H3 _ I3 q3) fun u2 s4 ⟨z4, H4, I4, r4, q4⟩ => thn (ho' pins s4 σ H4 y z4 u u2 _ I4 r2' r4 q4) fun e5 s5 ⟨z5, H5, I5, r5, k5, ez5, q5⟩ => ?_))
    subst ez5
    cases r5
    refine wpAny_truthy_bool ?_
    cases k5 with
    | false =>
      obtain ⟨k', e', q'⟩ := q5
      cases e'
      exact ite_ff ⟨H5, I5, q'⟩
    | true =>
      refine ite_tt (test_last (thn (hd.run pins s5 σ H5 _ I5 q5) fun u6 s6 ⟨z6, H6, I6, r6, q6⟩ => thn (ho2 pins s6 σ H6 z4 z6 u2 u6 _ I6 r4 r6 q6) fun e7 s7 ⟨z7, H7, I7, r7, k7, ez7, q7⟩ => ?_))
      subst ez7
      cases r7
      exact wpAny_truthy_bool ⟨H7, I7, q7⟩
end
end L2
namespace L2
open PySem PySem.Spec PyProof.Rows
def numV : V → Bool | .int _ => true | _ => false
section
variable {K : PySem.W.Frag} {σ : St} {H : Hp} {p : Addr} {xs : List V} {te : TE} {tt : TT} {j : Nat} {vs : List Nat} {Q : VK} {v : V} {d : PyData}
theorem num_dp (h : Dp K H v d) : (isIntD d && !isBoolD d) = numV v := by cases h <;> rfl
theorem non_dp (h : Dp K H v d) : decide (v = .non) = isNoneD d := by cases h <;> simp [isNoneD]
/-- [f(x) for x in xs if b(x)] over a list or a tuple wherever it stands, what is tested and made only adding to the heap -/
theorem lc_sqG {Qd : Addr → Hp → Prop} {f : V → V} {b : V → Bool} (hx : SqL K H p xs ∨ SqT K H p xs) (hz : xs.length < sizeLine) (hw : ∀ x, wipe ((wipe σ vs).set j (some x)) vs = wipe σ vs)
    (ht : ∀ x ∈ xs, ∀ H', Ext H H' → ∀ Q : Bool → Hp → Prop, (∀ H'', Ext H' H'' → Q (b x) H'') → tt ((wipe σ vs).set j (some x)) H' Q)
    (he : ∀ x ∈ xs, b x = true → ∀ H', Ext H H' → ∀ Q : VK, (∀ H'', Ext H' H'' → Q (f x) H'') → te ((wipe σ vs).set j (some x)) H' Q)
    (q : ∀ D H', H D = none → Ext H H' → H' D = some (.lst ((xs.filter b).map f)) → Qd D H') :
    ((∃ xs, SqL K H p xs) ∧ (fun J H1 => ∀ D, H1 D = none → ∃ W : Nat → Nat → Hp → Prop, (∃ m, W 0 m (upd H1 D (.lst []))) ∧ ∀ i m H, W i m H →
      (J.stop i H ∧ Qd D H) ∨ (J.go i H ∧ ∃ Nx : Hp → Prop, (∀ H', Nx H' → ∃ m', m' < m ∧ W (i + 1) m' H') ∧ ∀ x H', J.yld i H x H' → gName j x (wipe σ vs) H' fun σ2 H2 => wipe σ2 vs = wipe σ vs ∧ tt σ2 H2 fun b H3 =>
        if b = true then te σ2 H3 fun y H4 => ∃ acc, H4 D = some (.lst acc) ∧ acc.length < sizeLine ∧ Nx (upd H4 D (.lst (acc ++ [y]))) else Nx H3)) (Itl K p) H) ∨
    ((∃ xs, SqT K H p xs) ∧ (fun J H1 => ∀ D, H1 D = none → ∃ W : Nat → Nat → Hp → Prop, (∃ m, W 0 m (upd H1 D (.lst []))) ∧ ∀ i m H, W i m H →
      (J.stop i H ∧ Qd D H) ∨ (J.go i H ∧ ∃ Nx : Hp → Prop, (∀ H', Nx H' → ∃ m', m' < m ∧ W (i + 1) m' H') ∧ ∀ x H', J.yld i H x H' → gName j x (wipe σ vs) H' fun σ2 H2 => wipe σ2 vs = wipe σ vs ∧ tt σ2 H2 fun b H3 =>
        if b = true then te σ2 H3 fun y H4 => ∃ acc, H4 D = some (.lst acc) ∧ acc.length < sizeLine ∧ Nx (upd H4 D (.lst (acc ++ [y]))) else Nx H3)) (Itt K p) H) := by
  have turn : ∀ (D : Addr), H D = none → ∀ i x H', xs[i]? = some x → (Ext H H' ∧ H' D = some (.lst (((xs.take i).filter b).map f))) → gName j x (wipe σ vs) H' fun σ2 H2 => wipe σ2 vs = wipe σ vs ∧ tt σ2 H2 fun b' H3 =>
      if b' = true then te σ2 H3 fun y H4 => ∃ acc, H4 D = some (.lst acc) ∧ acc.length < sizeLine ∧ (Ext H (upd H4 D (.lst (acc ++ [y]))) ∧ upd H4 D (.lst (acc ++ [y])) D = some (.lst (((xs.take (i + 1)).filter b).map f))) else (Ext H H3 ∧ H3 D = some (.lst (((xs.take (i + 1)).filter b).map f))) := by
    intro D hD i x H' hi pv
    obtain ⟨e, hl⟩ := pv
    have hm : x ∈ xs := List.mem_of_getElem? hi
    refine ⟨hw x, ht x hm H' e _ fun H3 e3 => ?_⟩
    have hl3 : H3 D = some (.lst (((xs.take i).filter b).map f)) := e3 _ _ hl
    cases hb : b x with
    | true =>
      refine iteT (he x hm hb H3 (e.trans e3) _ fun H4 e4 => ⟨_, e4 _ _ hl3, ?_, ext_mut ((e.trans e3).trans e4) hD, ?_⟩)
      · rw [List.length_map]
        refine Nat.lt_of_le_of_lt (Nat.le_trans (List.length_filter_le _ _) ?_) hz
        exact List.length_take_le' _ _
      · rw [upd_same, take_snoc hi, List.filter_append, List.map_append]
        simp [hb]
    | false =>
      refine iteF ⟨e.trans e3, ?_⟩
      rw [hl3, take_snoc hi, List.filter_append, List.map_append]
      simp [hb]
  have fin : ∀ D, H D = none → ∀ H', (Ext H H' ∧ H' D = some (.lst (((xs.take xs.length).filter b).map f))) → Qd D H' := fun D hD H' pv => by
    rw [List.take_length] at pv
    exact q D H' hD pv.1 pv.2
  rcases hx with hx | hx
  · refine .inl ⟨⟨xs, hx⟩, fun D hD => lc_list (xs := xs) (fun i H' => Ext H H' ∧ H' D = some (.lst (((xs.take i).filter b).map f))) ⟨Ext.upd hD, upd_same⟩ (fun i H' _ pv => hx.ext pv.1) (fun i x H' hi pv => turn D hD i x H' hi pv) (fun H' pv => fin D hD H' pv)⟩
  · refine .inr ⟨⟨xs, hx⟩, fun D hD => lc_tup (xs := xs) (fun i H' => Ext H H' ∧ H' D = some (.lst (((xs.take i).filter b).map f))) ⟨Ext.upd hD, upd_same⟩ (fun i H' _ pv => hx.ext pv.1) (fun i x H' hi pv => turn D hD i x H' hi pv) (fun H' pv => fin D hD H' pv)⟩
end
end L2

set_option Elab.async false
set_option maxRecDepth 100000
set_option maxHeartbeats 4000000
namespace L2
open PySem PySem.Spec PyProof.Rows
section
variable {X : Cx} {m : Str} {k : Nat} {ps : List Str} {sp : Sp} {e o : Expr} {es : List Expr} {t : TA} {ta : TE} {pos apos : Pos} {C : Addr} {W : WX}
/-- o.m(e, ..) that may raise; W is wished for what it raises -/
theorem pe_ownMS {pl : Sem Bool} (O : OwnM X.prog X.w X.K X.mg X.base (L2.CX X.prog X.w) C m k ps sp) (he : PE X o ta) (c : Cls X.K C) (hr : Room k X.A) (tk : Takes X W) (ha : PA X (e :: es) t)
    (hst : starEach (e :: es) X.env = (false, eval e X.env) :: starEach es X.env := by rfl) (hpl : (backTo pos (starEach es X.env)).any (·.1) = false := by rfl)
    (ht : eval (.Call (.Attribute o m apos) (e :: es) [] pos) X.env = (do
      let ov ← eval o X.env
      standAt apos.atName
      let (f, first) ← holding [ov] (getMethod ov m pl)
      callWith pos f first (backTo pos (starEach (e :: es) X.env)) (backToKw pos (keywordEach [] X.env))) := by rfl) :
    PE X (.Call (.Attribute o m apos) (e :: es) [] pos) (tMethSD C m sp [] (WE W) ta t) := by
  obtain ⟨f, fd, F, M, _, hb⟩ := O.ex
  exact pe_methSD he c M F hr hb .nil (fun σ => passAt tk σ) ha hst hpl ht
theorem PE.imp {ex : Expr} {t1 t2 : TE} (h : PE X ex t1) (i : ∀ σ H Q, t2 σ H Q → t1 σ H Q) : PE X ex t2 := ⟨fun pins s σ H Q I z => h.run pins s σ H Q I (i σ H Q z)⟩
end
end L2

set_option Elab.async false
set_option linter.all false
set_option maxRecDepth 100000
set_option maxHeartbeats 4000000
/-! tuples of own objects, compared by their own ==, whichever the answer -/
namespace GQ
open PySem PySem.SeqAt
open AutoSeq1 (wpAny_loadPart')
open MeetsSeq MeetsSeq2 MeetsSeq3 SeqRoads2
section
variable {prog : Program} {w : World} {A : Around} {R : Result → Shared → Prop}
/-- the places one by one: I goes on, J at the first two that differ -/
theorem tup_eqB (la lb : Addr) (xs ys : Array Value) (n n2 : Nat) (dd dd2 : Option Addr) (sl sl2 : Array (Option Value)) (hsz : xs.size = ys.size) (I : Nat → Shared → Prop) (J : Shared → Prop)
    (turn : ∀ i (h1 : i < xs.size) (h2 : i < ys.size) s, I i s → wpAny (model prog w) A.in1 (eqBool xs[i] ys[i]) (fun r s' => (r = true ∧ I (i + 1) s') ∨ (r = false ∧ J s')) (fun e s' => R (.error e) s') s)
    (finT : ∀ s, I xs.size s → R (.ok (.ret (.bool true))) s) (finF : ∀ s, J s → R (.ok (.ret (.bool false))) s) {s : Shared}
    (hla : s.heap.get? la = some { cls := .type "tuple", dict := dd, data := .seq xs n, slots := sl }) (hlb : s.heap.get? lb = some { cls := .type "tuple", dict := dd2, data := .seq ys n2, slots := sl2 }) (h : I 0 s) :
    wpAny (model prog w) A.in1 (Builtin.«tuple.__eq__» ⟨[.ref la, .ref lb], []⟩) (FinOf prog w A R) (fun e s' => R (.error e) s') s := by
  have f2 := AutoSeq1.sub_tuple_tuple
  have hZ : (xs.toList.zip ys.toList).length = xs.size := by simp [hsz]
  have h0 := h
  obtain ⟨hp, g, d, tk, os⟩ := s
  wp_walk using wpAny_loadPart' hla, wpAny_loadPart' hlb, wpAny_forIn_list _ (fun rest b s' => b.1 = none ∧ ∃ i, rest = (xs.toList.zip ys.toList).drop i ∧ i ≤ xs.size ∧ I i s') _
  case turn =>
    rintro ⟨y, x⟩ rest b s' ⟨hb', i, hz, hi, hI⟩
    have hlt : i < (xs.toList.zip ys.toList).length := by
      rcases Nat.lt_or_ge i (xs.toList.zip ys.toList).length with h' | h'
      · exact h'
      · rw [List.drop_of_length_le h'] at hz
        cases hz
    have h1 : i < xs.size := hZ ▸ hlt
    have h2 : i < ys.size := hsz ▸ h1
    rw [List.drop_eq_getElem_cons hlt] at hz
    injection hz with hyx hrest
    have hy : y = xs[i] := by
      have q := congrArg Prod.fst hyx
      simpa using q
    have hx : x = ys[i] := by
      have q := congrArg Prod.snd hyx
      simpa using q
    subst hy hx
    refine wpAny_bind (wpAny_mono (turn i h1 h2 s' hI) (fun r s2 q2 => ?_) fun _ _ x => x)
    rcases q2 with ⟨hr, q2⟩ | ⟨hr, q2⟩
    · subst hr
      wp_walk
      exact ⟨rfl, i + 1, hrest, h1, q2⟩
    · subst hr
      have hR : R (.ok (.ret (.bool false))) s2 := finF s2 q2
      wp_walk
      exact hR
  case fin =>
    rintro ⟨b1, b2⟩ s' ⟨hb', i, hz, hi, hI⟩
    simp only at hb'
    subst hb'
    have hge : xs.size ≤ i := by
      rcases Nat.lt_or_ge i (xs.toList.zip ys.toList).length with h' | h'
      · rw [List.drop_eq_getElem_cons h'] at hz
        cases hz
      · exact hZ ▸ h'
    have hi' : i = xs.size := by omega
    have hR : R (.ok (.ret (.bool true))) s' := finT s' (hi' ▸ hI)
    wp_walk
    simpa [Builtin.Tuple.tupleCompareSizes, hsz] using hR
  case h =>
    exact ⟨rfl, 0, rfl, Nat.zero_le _, h0⟩
/-- the same for != -/
theorem tup_neB (la lb : Addr) (xs ys : Array Value) (n n2 : Nat) (dd dd2 : Option Addr) (sl sl2 : Array (Option Value)) (hsz : xs.size = ys.size) (I : Nat → Shared → Prop) (J : Shared → Prop)
    (turn : ∀ i (h1 : i < xs.size) (h2 : i < ys.size) s, I i s → wpAny (model prog w) A.in1 (eqBool xs[i] ys[i]) (fun r s' => (r = true ∧ I (i + 1) s') ∨ (r = false ∧ J s')) (fun e s' => R (.error e) s') s)
    (finT : ∀ s, I xs.size s → R (.ok (.ret (.bool false))) s) (finF : ∀ s, J s → R (.ok (.ret (.bool true))) s) {s : Shared}
    (hla : s.heap.get? la = some { cls := .type "tuple", dict := dd, data := .seq xs n, slots := sl }) (hlb : s.heap.get? lb = some { cls := .type "tuple", dict := dd2, data := .seq ys n2, slots := sl2 }) (h : I 0 s) :
    wpAny (model prog w) A.in1 (Builtin.«tuple.__ne__» ⟨[.ref la, .ref lb], []⟩) (FinOf prog w A R) (fun e s' => R (.error e) s') s := by
  have f2 := AutoSeq1.sub_tuple_tuple
  have hZ : (xs.toList.zip ys.toList).length = xs.size := by simp [hsz]
  have h0 := h
  obtain ⟨hp, g, d, tk, os⟩ := s
  wp_walk using wpAny_loadPart' hla, wpAny_loadPart' hlb, wpAny_forIn_list _ (fun rest b s' => b.1 = none ∧ ∃ i, rest = (xs.toList.zip ys.toList).drop i ∧ i ≤ xs.size ∧ I i s') _
  case turn =>
    rintro ⟨y, x⟩ rest b s' ⟨hb', i, hz, hi, hI⟩
    have hlt : i < (xs.toList.zip ys.toList).length := by
      rcases Nat.lt_or_ge i (xs.toList.zip ys.toList).length with h' | h'
      · exact h'
      · rw [List.drop_of_length_le h'] at hz
        cases hz
    have h1 : i < xs.size := hZ ▸ hlt
    have h2 : i < ys.size := hsz ▸ h1
    rw [List.drop_eq_getElem_cons hlt] at hz
    injection hz with hyx hrest
    have hy : y = xs[i] := by
      have q := congrArg Prod.fst hyx
      simpa using q
    have hx : x = ys[i] := by
      have q := congrArg Prod.snd hyx
      simpa using q
    subst hy hx
    refine wpAny_bind (wpAny_mono (turn i h1 h2 s' hI) (fun r s2 q2 => ?_) fun _ _ x => x)
    rcases q2 with ⟨hr, q2⟩ | ⟨hr, q2⟩
    · subst hr
      wp_walk
      exact ⟨rfl, i + 1, hrest, h1, q2⟩
    · subst hr
      have hR : R (.ok (.ret (.bool true))) s2 := finF s2 q2
      wp_walk
      exact hR
  case fin =>
    rintro ⟨b1, b2⟩ s' ⟨hb', i, hz, hi, hI⟩
    simp only at hb'
    subst hb'
    have hge : xs.size ≤ i := by
      rcases Nat.lt_or_ge i (xs.toList.zip ys.toList).length with h' | h'
      · rw [List.drop_eq_getElem_cons h'] at hz
        cases hz
      · exact hZ ▸ h'
    have hi' : i = xs.size := by omega
    have hR : R (.ok (.ret (.bool false))) s' := finT s' (hi' ▸ hI)
    wp_walk
    simpa [Builtin.Tuple.tupleCompareSizes, bne, hsz] using hR
  case h =>
    exact ⟨rfl, 0, rfl, Nat.zero_le _, h0⟩
end
end GQ
namespace GQ
open PySem PySem.SeqAt
section
variable {prog : Program} {w : World} {A : Around} {E : Value → Shared → Prop} {s : Shared}
theorem rc_tupB {la lb : Addr} {xs ys : Array Value} {Q : Value → Shared → Prop} (hsz : xs.size = ys.size) (hu : A.units < cLine) (I : Nat → Shared → Prop) (J : Shared → Prop) (hla : s.heap.IsTuple la xs) (hlb : s.heap.IsTuple lb ys)
    (turn : ∀ i (h1 : i < xs.size) (h2 : i < ys.size) s, I i s → wpAny (model prog w) A.in1 (eqBool xs[i] ys[i]) (fun r s' => (r = true ∧ I (i + 1) s') ∨ (r = false ∧ J s')) E s)
    (finT : ∀ s, I xs.size s → Q (.bool true) s) (finF : ∀ s, J s → Q (.bool false) s) (h : I 0 s) : wpAny (model prog w) A (richCompare .Eq (.ref la) (.ref lb)) Q E s := by
  obtain ⟨⟨cls, dd, data, sl⟩, ho, hc, n, hd⟩ := id hla
  obtain ⟨⟨cls2, dd2, data2, sl2⟩, ho2, hc2, n2, hd2⟩ := id hlb
  simp only at hc hd hc2 hd2
  subst hc hd hc2 hd2
  refine wpAny_richCompare_same_room (op := .Eq) ⟨_, ho, rfl⟩ ⟨_, ho2, rfl⟩ F.slot_tuple_eq (call_here F.slot_tuple_eq ⟨_, ho, rfl⟩ F.entry_tuple_eq (F.args_tuple_eq_2 _ _) ?_) hu
  exact tup_eqB (R := wants (fun v s' => v ≠ .notImplemented ∧ Q v s') E) la lb xs ys n n2 dd dd2 sl sl2 hsz I J turn (fun s' q => ⟨(fun x => nomatch x), finT s' q⟩) (fun s' q => ⟨(fun x => nomatch x), finF s' q⟩) ho ho2 h
theorem rc_tupNB {la lb : Addr} {xs ys : Array Value} {Q : Value → Shared → Prop} (hsz : xs.size = ys.size) (hu : A.units < cLine) (I : Nat → Shared → Prop) (J : Shared → Prop) (hla : s.heap.IsTuple la xs) (hlb : s.heap.IsTuple lb ys)
    (turn : ∀ i (h1 : i < xs.size) (h2 : i < ys.size) s, I i s → wpAny (model prog w) A.in1 (eqBool xs[i] ys[i]) (fun r s' => (r = true ∧ I (i + 1) s') ∨ (r = false ∧ J s')) E s)
    (finT : ∀ s, I xs.size s → Q (.bool false) s) (finF : ∀ s, J s → Q (.bool true) s) (h : I 0 s) : wpAny (model prog w) A (richCompare .NotEq (.ref la) (.ref lb)) Q E s := by
  obtain ⟨⟨cls, dd, data, sl⟩, ho, hc, n, hd⟩ := id hla
  obtain ⟨⟨cls2, dd2, data2, sl2⟩, ho2, hc2, n2, hd2⟩ := id hlb
  simp only at hc hd hc2 hd2
  subst hc hd hc2 hd2
  refine wpAny_richCompare_same_room (op := .NotEq) ⟨_, ho, rfl⟩ ⟨_, ho2, rfl⟩ F.slot_tuple_ne (call_here F.slot_tuple_ne ⟨_, ho, rfl⟩ F.entry_tuple_ne (F.args_tuple_ne_2 _ _) ?_) hu
  exact tup_neB (R := wants (fun v s' => v ≠ .notImplemented ∧ Q v s') E) la lb xs ys n n2 dd dd2 sl sl2 hsz I J turn (fun s' q => ⟨(fun x => nomatch x), finT s' q⟩) (fun s' q => ⟨(fun x => nomatch x), finF s' q⟩) ho ho2 h
end
end GQ
namespace L2
open PySem PySem.Spec PyProof.Rows
/-- how two values compare, by the abstract heap -/
abbrev EqvB := V → V → Hp → Bool → Prop
def MonB (D : EqvB) : Prop := ∀ x y H H' k, Ext H H' → D x y H k → D x y H' k
def EqB (X : Cx) (n : Nat) (D : EqvB) : Prop :=
  ∀ (A : Around) (pins : List (Addr × Obj)) (s : Shared) (σ : St) (H : Hp) (x y : V) (u v : Value) (k : Bool), Sub X n A → Inv X pins σ H s → RelV x u → RelV y v → D x y H k →
    wpAny (model X.prog X.w) A (eqBool u v) (fun r s' => r = k ∧ ∃ H', Inv X pins σ H' s' ∧ Ext H H') X.xe s
def RcB (X : Cx) (n : Nat) (D : EqvB) : Prop :=
  ∀ (A : Around) (pins : List (Addr × Obj)) (s : Shared) (σ : St) (H : Hp) (x y : V) (u v : Value) (k : Bool), Sub X n A → Inv X pins σ H s → RelV x u → RelV y v → D x y H k →
    wpAny (model X.prog X.w) A (richCompare .Eq u v) (fun r s' => r = .bool k ∧ ∃ H', Inv X pins σ H' s' ∧ Ext H H') X.xe s
section
variable {X : Cx} {n : Nat} {D : EqvB}
/-- instances of the class at C -/
def DInsB (C : Addr) (R : Addr → Addr → Hp → Bool → Prop) : EqvB := fun x y H k => ∃ a b dx dy fs gs, x = .ref a ∧ y = .ref b ∧ H a = some (.ins C dx fs) ∧ H b = some (.ins C dy gs) ∧ R a b H k
def spEqB (R : Addr → Addr → Hp → Bool → Prop) : Sp := fun vs H Q _ => ∃ a b k, vs = [.ref a, .ref b] ∧ R a b H k ∧ ∀ H', Ext H H' → Q (.bl k) H'
theorem rcB_ins {CX : CXT} {C f : Addr} {fd : FuncData} {ps : List Str} {R : Addr → Addr → Hp → Bool → Prop} {E : XK} (F : FnOk X.prog X.w X.K X.mg X.base CX n f fd ps (spEqB R))
    (hs : PySem.W.findIn X.K (.ref C) "__eq__" = some (some (.ref f))) (hf : PySem.W.isFn X.K (.ref f) = true) (hb : Binds X.K fd ps []) (hx : Passes CX X E) : RcB X n (DInsB C R) := by
  intro A pins s σ H x y u v k sb I rx ry d
  obtain ⟨a, b, dx, dy, fs, gs, rfl, rfl, ha, hb', hr⟩ := d
  cases rx
  cases ry
  obtain ⟨mA, J, _⟩ := ins_get I.hok ha
  obtain ⟨mB, J', _⟩ := ins_get I.hok hb'
  obtain ⟨od, J, _⟩ := J.look
  obtain ⟨od', J', _⟩ := J'.look
  obtain ⟨m, hF⟩ := I.fr
  refine PySem.W.cmp_K (op := .Eq) (tb := .ref C) sb.room.units0 hF I.ok.mod.kin J J'.type (by simp [PySem.W.notFirst]) hs hf ?_
  have hsp : spEqB R [.ref a, .ref b] H (fun v H' => v = .bl k ∧ Ext H H') E := ⟨a, b, k, rfl, hr, fun H' e => ⟨rfl, e⟩⟩
  have e1 := I.env0
  have e0 : Env0 X.prog X.w X.K X.mg X.base A X.stack s H := ⟨by rw [sb.fr]; exact e1.frames, e1.mod, e1.bs, e1.bsz, e1.funs, e1.frf, e1.hok, e1.bare⟩
  have hl := F.len _ _ _ _ hsp
  have bd := hb s [.ref a, .ref b] I.kIn (by simpa using hl)
  have bd' : BindsTo s fd ⟨[.ref a, .ref b], []⟩ (ps.zip [.ref a, .ref b]) := by simpa using bd
  refine wpAny_call (codeAny_mono (F.run A X.stack s H ⟨[.ref a, .ref b], []⟩ [.ref a, .ref b] [.ref a, .ref b] _ E sb.room e0 bd' (.cons rfl (.cons rfl .nil)) hsp) fun r s' hq => ?_)
  match r, hq with
  | .error e, hq => exact hx pins σ H s e s' I hq
  | .ok (.ret z), hq =>
    obtain ⟨zv, H', I', rz, ez, ex⟩ := I.after hq
    subst ez
    cases rz
    exact ⟨rfl, H', I', ex⟩
  | .ok .next, hq => exact hq.elim
  | .ok .brk, hq => exact hq.elim
  | .ok .cont, hq => exact hq.elim
/-- within a tuple: the same object is equal to itself -/
theorem RcB.eqB (h : RcB X n D) (hr : ∀ x y H k, D x y H k → ∃ a b, x = .ref a ∧ y = .ref b ∧ (a = b → k = true)) : EqB X n D := by
  intro A pins s σ H x y u v k sb I rx ry d
  obtain ⟨a, b, rfl, rfl, hk⟩ := hr _ _ _ _ d
  cases rx
  cases ry
  by_cases hab : a = b
  · have hk' := hk hab
    subst hab hk'
    exact SeqAt.EqAt.same (A := A) (s := s) (.ref a) X.prog X.w X.xe _ ⟨rfl, H, I, Ext.rfl'⟩
  · refine GQ.eqBool_refG hab (wpAny_mono (h A pins s σ H (.ref a) (.ref b) _ _ k sb I rfl rfl d) (fun r s' q => ?_) fun _ _ x => x)
    obtain ⟨hr', q⟩ := q
    exact ⟨k, hr', rfl, q⟩
/-- tuples of one length, place by place; ks the answers -/
def DTupB (K : PySem.W.Frag) (D : EqvB) : EqvB := fun x y H k => ∃ (a b : Addr) (xs ys : List V) (ks : List Bool), x = .ref a ∧ y = .ref b ∧ SqT K H a xs ∧ SqT K H b ys ∧ xs.length = ys.length ∧ ks.length = xs.length ∧
  (∀ (i : Nat) x y c, xs[i]? = some x → ys[i]? = some y → ks[i]? = some c → D x y H c) ∧ k = ks.all id
theorem all_take {ks : List Bool} {i : Nat} (h : ∀ j, j < i → ks[j]? = some true) (hi : ks.length ≤ i) : ks.all id = true := by
  rw [List.all_eq_true]
  intro c hc
  obtain ⟨j, hj⟩ := List.mem_iff_getElem?.mp hc
  have hjl := (List.getElem?_eq_some_iff.mp hj).1
  have q := h j (Nat.lt_of_lt_of_le hjl hi)
  rw [hj] at q
  cases q
  rfl
theorem rcB_tup (hD : MonB D) (h : EqB X n D) : RcB X (n + 1) (DTupB X.K D) := by
  intro A pins s σ H x y u v k sb I rx ry d
  obtain ⟨a, b, xs, ys, ks, rfl, rfl, ha, hb, hlen, hks, hp, rfl⟩ := d
  cases rx
  cases ry
  obtain ⟨its, r, e, z⟩ := I.tuple ha
  obtain ⟨its2, r2, e2, z2⟩ := I.tuple hb
  have l1 := r.length
  have l2 := r2.length
  have hsz : its.toArray.size = its2.toArray.size := by rw [List.size_toArray, List.size_toArray, ← l1, ← l2]; exact hlen
  refine GQ.rc_tupB hsz sb.room.units0 (fun i s' => (∃ H', Inv X pins σ H' s' ∧ Ext H H') ∧ ∀ j, j < i → ks[j]? = some true) (fun s' => (∃ H', Inv X pins σ H' s' ∧ Ext H H') ∧ ks.all id = false) e e2 (fun i h1 h2 s' q => ?_) (fun s' q => ?_) (fun s' q => ?_) ⟨⟨H, I, Ext.rfl'⟩, fun j hj => absurd hj (Nat.not_lt_zero _)⟩
  · obtain ⟨⟨H1, I1, e1⟩, hk⟩ := q
    have h1' : i < its.length := by simpa using h1
    have h2' : i < its2.length := by simpa using h2
    have g1 : its[i]? = some its.toArray[i] := by rw [List.getElem?_eq_getElem h1'] <;> simp
    have g2 : its2[i]? = some its2.toArray[i] := by rw [List.getElem?_eq_getElem h2'] <;> simp
    have k1 : i < xs.length := by omega
    have k2 : i < ys.length := by omega
    have k3 : i < ks.length := by omega
    obtain ⟨uu, hu, ru⟩ := r.get (List.getElem?_eq_getElem k1)
    obtain ⟨vv, hv, rv⟩ := r2.get (List.getElem?_eq_getElem k2)
    rw [g1] at hu
    rw [g2] at hv
    rw [Option.some.inj hu, Option.some.inj hv]
    refine wpAny_mono (h A.in1 pins s' σ H1 _ _ uu vv ks[i] sb.in1 I1 ru rv (hD _ _ _ _ _ e1 (hp i _ _ _ (List.getElem?_eq_getElem k1) (List.getElem?_eq_getElem k2) (List.getElem?_eq_getElem k3)))) (fun rr s2 q2 => ?_) fun _ _ x => x
    obtain ⟨hr, H2, I2, e2'⟩ := q2
    have hki : ks[i]? = some rr := by rw [hr]; exact List.getElem?_eq_getElem k3
    cases rr with
    | true =>
      refine .inl ⟨rfl, ⟨H2, I2, e1.trans e2'⟩, fun j hj => ?_⟩
      rcases Nat.lt_succ_iff_lt_or_eq.mp hj with hj | rfl
      · exact hk j hj
      · exact hki
    | false =>
      refine .inr ⟨rfl, ⟨H2, I2, e1.trans e2'⟩, ?_⟩
      rw [List.all_eq_false]
      exact ⟨false, List.mem_of_getElem? hki, by decide⟩
  · obtain ⟨q1, hk⟩ := q
    exact ⟨by rw [all_take hk (by simp; omega)], q1⟩
  · obtain ⟨q1, hk⟩ := q
    exact ⟨by rw [hk], q1⟩
/-- the same for !=, told by what == would say -/
def RcNB (X : Cx) (n : Nat) (D : EqvB) : Prop :=
  ∀ (A : Around) (pins : List (Addr × Obj)) (s : Shared) (σ : St) (H : Hp) (x y : V) (u v : Value) (k : Bool), Sub X n A → Inv X pins σ H s → RelV x u → RelV y v → D x y H k →
    wpAny (model X.prog X.w) A (richCompare .NotEq u v) (fun r s' => r = .bool (!k) ∧ ∃ H', Inv X pins σ H' s' ∧ Ext H H') X.xe s
theorem rcNB_tup (hD : MonB D) (h : EqB X n D) : RcNB X (n + 1) (DTupB X.K D) := by
  intro A pins s σ H x y u v k sb I rx ry d
  obtain ⟨a, b, xs, ys, ks, rfl, rfl, ha, hb, hlen, hks, hp, rfl⟩ := d
  cases rx
  cases ry
  obtain ⟨its, r, e, z⟩ := I.tuple ha
  obtain ⟨its2, r2, e2, z2⟩ := I.tuple hb
  have l1 := r.length
  have l2 := r2.length
  have hsz : its.toArray.size = its2.toArray.size := by rw [List.size_toArray, List.size_toArray, ← l1, ← l2]; exact hlen
  refine GQ.rc_tupNB hsz sb.room.units0 (fun i s' => (∃ H', Inv X pins σ H' s' ∧ Ext H H') ∧ ∀ j, j < i → ks[j]? = some true) (fun s' => (∃ H', Inv X pins σ H' s' ∧ Ext H H') ∧ ks.all id = false) e e2 (fun i h1 h2 s' q => ?_) (fun s' q => ?_) (fun s' q => ?_) ⟨⟨H, I, Ext.rfl'⟩, fun j hj => absurd hj (Nat.not_lt_zero _)⟩
  · obtain ⟨⟨H1, I1, e1⟩, hk⟩ := q
    have h1' : i < its.length := by simpa using h1
    have h2' : i < its2.length := by simpa using h2
    have g1 : its[i]? = some its.toArray[i] := by rw [List.getElem?_eq_getElem h1'] <;> simp
    have g2 : its2[i]? = some its2.toArray[i] := by rw [List.getElem?_eq_getElem h2'] <;> simp
    have k1 : i < xs.length := by omega
    have k2 : i < ys.length := by omega
    have k3 : i < ks.length := by omega
    obtain ⟨uu, hu, ru⟩ := r.get (List.getElem?_eq_getElem k1)
    obtain ⟨vv, hv, rv⟩ := r2.get (List.getElem?_eq_getElem k2)
    rw [g1] at hu
    rw [g2] at hv
    rw [Option.some.inj hu, Option.some.inj hv]
    refine wpAny_mono (h A.in1 pins s' σ H1 _ _ uu vv ks[i] sb.in1 I1 ru rv (hD _ _ _ _ _ e1 (hp i _ _ _ (List.getElem?_eq_getElem k1) (List.getElem?_eq_getElem k2) (List.getElem?_eq_getElem k3)))) (fun rr s2 q2 => ?_) fun _ _ x => x
    obtain ⟨hr, H2, I2, e2'⟩ := q2
    have hki : ks[i]? = some rr := by rw [hr]; exact List.getElem?_eq_getElem k3
    cases rr with
    | true =>
      refine .inl ⟨rfl, ⟨H2, I2, e1.trans e2'⟩, fun j hj => ?_⟩
      rcases Nat.lt_succ_iff_lt_or_eq.mp hj with hj | rfl
      · exact hk j hj
      · exact hki
    | false =>
      refine .inr ⟨rfl, ⟨H2, I2, e1.trans e2'⟩, ?_⟩
      rw [List.all_eq_false]
      exact ⟨false, List.mem_of_getElem? hki, by decide⟩
  · obtain ⟨q1, hk⟩ := q
    exact ⟨by rw [all_take hk (by simp; omega)]; rfl, q1⟩
  · obtain ⟨q1, hk⟩ := q
    exact ⟨by rw [hk]; rfl, q1⟩
/-- x == y, x != y as expressions -/
def rEqB (D : EqvB) : R2 := fun x y H Q => ∃ k, D x y H k ∧ ∀ H', Ext H H' → Q (.bl k) H'
def rNeB (D : EqvB) : R2 := fun x y H Q => ∃ k, D x y H k ∧ ∀ H', Ext H H' → Q (.bl (!k)) H'
theorem op_eqB (h : RcB X n D) (hr : Room n X.A) : OpR X (compareOp .Eq) (rEqB D) := by
  intro pins s σ H x y v u Q I rx ry hq
  obtain ⟨k, d, q⟩ := hq
  show wpAny (model X.prog X.w) X.A (richCompare .Eq v u) (EP X pins σ Q) X.xe s
  refine wpAny_mono (h X.A pins s σ H x y v u k ⟨hr, rfl⟩ I rx ry d) (fun r s' z => ?_) fun _ _ x => x
  obtain ⟨hr', H', I', e⟩ := z
  subst hr'
  exact ⟨.bl k, H', I', rfl, q H' e⟩
theorem op_neB (h : RcNB X n D) (hr : Room n X.A) : OpR X (compareOp .NotEq) (rNeB D) := by
  intro pins s σ H x y v u Q I rx ry hq
  obtain ⟨k, d, q⟩ := hq
  show wpAny (model X.prog X.w) X.A (richCompare .NotEq v u) (EP X pins σ Q) X.xe s
  refine wpAny_mono (h X.A pins s σ H x y v u k ⟨hr, rfl⟩ I rx ry d) (fun r s' z => ?_) fun _ _ x => x
  obtain ⟨hr', H', I', e⟩ := z
  subst hr'
  exact ⟨.bl (!k), H', I', rfl, q H' e⟩
end
end L2

set_option Elab.async false
set_option linter.all false
set_option maxRecDepth 100000
set_option maxHeartbeats 4000000
/-! except A as e: .. except B as e: ..; classes made with keyword-only parameters -/
namespace L2
open PySem PySem.Spec PyProof.Rows
abbrev SuT := Addr → Value → Option Addr → TS
/-- behind a suite the i-th slot is empty -/
def dropAt (i : Nat) (D : Ends) : Ends := { nx := fun g J => D.nx (g.set i none) J, rt := D.rt, bk := fun g J => D.bk (g.set i none) J, ct := fun g J => D.ct (g.set i none) J }
def wManyA (K : PySem.W.Frag) (Wo : WX) (D : Ends) : List (Value × Nat × SuT) → WX
  | [] => Wo
  | (c, i, ts) :: r => fun cl d g J => ∃ y, PySem.W.exmOne K cl c = some y ∧ (y = true → ∀ q, J q = none → ts q cl d (dropAt i D) (g.set i (some (.ref q))) J) ∧ (y = false → wManyA K Wo D r cl d g J)
inductive HdsA (X : Cx) : List ExceptHandler → List (Value × Nat × SuT) → Prop
  | nil : HdsA X [] []
  | cons {x n : Str} {c : Value} {i : Nat} {ts : SuT} {b0 : Stmt} {su : List Stmt} {np pp : Pos} {hds : List ExceptHandler} {l : List (Value × Nat × SuT)} (hi : X.N[i]? = some n) (hl : X.env.kindOf n = some .local) (hc : Names X x c)
      (hsu : ∀ (q : Addr) (oq : Obj) (cl : Value) (d : Option Addr) (pn : List (Addr × Obj)), Zc cl d oq → (∃ us, oq.data = .fields us) → PSs (X.suite q ((q, oq) :: pn)) (b0 :: su) (ts q cl d)) (r : HdsA X hds l) :
      HdsA X (.ExceptHandler (some (.Name x np)) (some n) (b0 :: su) pp :: hds) ((c, i, ts) :: l)
section
variable {X : Cx} {bd : List Stmt} {hd0 : ExceptHandler} {hds : List ExceptHandler} {l : List (Value × Nat × SuT)} {pos : Pos} {tb : WX → TS} {Wo : WX}
theorem ps_try_manyA (hs : X.stack = X.env :: X.outer) (hf : X.env.frame = some X.env.locals) (hN : X.N.Nodup) (tk : Takes X Wo)
    (hb : ∀ (W : WX) (pn : List (Addr × Obj)) (xe : Value → Shared → Prop), Takes (X.tr pn xe) W → PassesOwn (model X.prog X.w) X.A X.env xe → PSs (X.tr pn xe) bd (tb W))
    (hh : HdsA X (hd0 :: hds) l) : PS X (.Try bd (hd0 :: hds) [] [] pos) (fun D g J => tb (wManyA X.K Wo D l) D g J) := by
  refine ⟨fun pins s0 g0 J0 D I0 h => ?_⟩
  have kk := I0.ok
  have hfr : X.A.frames = some (X.env :: X.outer) := by rw [kk.frames, hs]
  refine wpAny_Try_except (wpAny_mono ((hb (wManyA X.K Wo D l) (X.pn ++ pins) (fun u t1 => wpAny (model X.prog X.w) X.A (noteFrame u X.env) (fun _ t2 => wpAny (model X.prog X.w) X.A (setFlight u none) (fun _ t3 =>
    wpAny (model X.prog X.w) X.A (handleBy u X.env (hd0 :: hds)) (SP X pins D) X.xe t3) X.xe t2) X.xe t1) (fun u t1 xx => ?_) PassesOwn.looking).run [] s0 g0 J0 D (I0.toTry _) h) (fun fl t1 hsp => ?_) (fun _ _ z => z))
  · obtain ⟨q, B, sI, pns, g1, J1, cl, d, rfl, K1, nb, up, sky, na, os, ag, wx⟩ := xx
    have V : Inv X pins g1 J1 sI := K1.ofTry kk
    have sky2 : Sky B (X.env :: X.outer) q (Zc cl d) X.env.locals t1.heap := by rw [← hs]; exact sky
    show wpAny (model X.prog X.w) X.A (noteFrame (.ref q) X.env) _ _ _
    refine Sky.land Zc.steady hfr hf sky2 fun h3 f3 u3 => ?_
    have V3 : Inv X pins g1 J1 { t1 with heap := h3 } := V.landed nb f3.1 (up.trans u3) os ag
    obtain ⟨o3, v3, e3, z3, d3⟩ := f3.there
    have apart : ∀ {hh : Heap} {o : Obj} {us : Array Value}, hh.FunFrames B (X.env :: X.outer) → hh.get? q = some o → o.data = .fields us → q ∉ frs (X.env :: X.outer) := fun {hh o us} ff e dd hm => by
      obtain ⟨_, o', e', hnf⟩ := ff.mem hm
      rw [e] at e'
      cases e'
      exact hnf _ dd
    have np := apart f3.2.2.1 e3 d3
    have nL : q ≠ X.env.locals := fun z => np (List.mem_filterMap.mpr ⟨X.env, List.mem_cons_self, by rw [hf, z]⟩)
    have nF : q ∉ X.fs := fun hm => by
      obtain ⟨e, he, r⟩ := List.mem_filterMap.mp hm
      exact np (List.mem_filterMap.mpr ⟨e, List.mem_cons_of_mem _ he, r⟩)
    have S3 := V3.suite e3 d3 na nL nF
    have go : ∀ {hz : List ExceptHandler} {lz : List (Value × Nat × SuT)}, HdsA X hz lz → wManyA X.K Wo D lz cl d g1 J1 → wpAny (model X.prog X.w) X.A (handleBy (.ref q) X.env hz) (SP X pins D) X.xe { t1 with heap := h3 } := by
      intro hz lz hk
      induction hk with
      | nil =>
        intro wz
        refine wpAny_handleBy_nil ?_
        obtain ⟨_, _, _, oq, us, TB, oT, ts2, he, hq, hdd, h1, hr⟩ := id f3
        unfold PySem.passOn
        refine wpAny_bind (wpAny_field he hdd h1 ?_)
        rw [if_neg (show ¬ ((Value.ref TB == Value.none) = true) by simp)]
        have fin : wpAny (model X.prog X.w) X.A (setFlight (.ref q) X.env.frame) (fun _ t4 => wpAny (model X.prog X.w) X.A (throw (.ref q) : Sem Flow) (SP X pins D) X.xe t4) X.xe { t1 with heap := h3 } := by
          rw [hf]
          refine HandSPX.setFlight_upZ f3 fun h4 hh4 up4 => wpAny_throw (tk _ _ ?_)
          exact ⟨q, B, sI, pins, g1, J1, cl, d, rfl, V, nb, (up.trans u3).trans up4, .inr (.inr (by rw [hs]; exact hh4)), na, os, ag, wz⟩
        first | exact wpAny_bind (wpAny_pure (wpAny_bind fin)) | exact wpAny_bind fin
      | @cons x n c i ts b0 su np pp hds2 l2 hi hl hc hsu r ih =>
        intro wz
        obtain ⟨y, hy, yes, no⟩ := wz
        refine wpAny_handleBy_cons (codeAny_handlers_test ?_) (by intro z; cases z)
        have LT : PySem.W.Looks (model X.prog X.w) h3 (typeOf (.ref q)) cl := fun A Q E s k r => wpAny_typeOf_ref (k _ _ e3) (by rw [z3.1]; exact r)
        have LM := PySem.W.exm_one (M := model X.prog X.w) (V3.kIn) LT hy
        have tst : ∀ {Q E : Value → Shared → Prop}, Q c { t1 with heap := h3 } → wpAny (model X.prog X.w) (X.A.mark (some (.ref q))) (eval (.Name x np) X.env) Q E { t1 with heap := h3 } := fun {Q E} z => by
          obtain ⟨hg, hdbg, hm | ⟨hm, hv, hnn⟩⟩ := hc
          · exact ld_glob (X := X.suite q ((q, o3) :: (X.pn ++ pins))) S3 hg hm z hdbg
          · exact ld_blt (X := X.suite q ((q, o3) :: (X.pn ++ pins))) S3 hg hm hv z hnn hdbg
        refine tst (LM.here ?_)
        cases y with
        | true =>
          refine codeAny_handlers_suite_as (HandSPX.lands_againZ f3 fun h4 f4 u4 => ?_)
          have V4 : Inv X pins g1 J1 { t1 with heap := h4 } := V.landed nb f4.1 ((up.trans u3).trans u4) os ag
          obtain ⟨o4, v4, e4, z4, d4⟩ := f4.there
          have S4 := V4.suite e4 d4 na nL nF
          have hloc : Loc X.env.scope n := .inl hl
          refine store_ok (X := X.suite q ((q, o4) :: (X.pn ++ pins))) (v := .ref q) S4 hN hi hloc rfl (fun t5 S5 => ?_) (.inr hl)
          refine wpAny_mono ((hsu q o4 cl d (X.pn ++ pins) z4 ⟨_, d4⟩).run [] t5 _ J1 _ S5 (yes rfl q na)) (fun fl t6 sp => ?_) (fun _ _ z => False.elim z)
          have ends : ∀ {g6 : St} {J6 : Hp} {Q : Shared → Prop}, Inv (X.suite q ((q, o4) :: (X.pn ++ pins))) [] g6 J6 t6 → (∀ t7, Inv X pins (g6.set i none) J6 t7 → Q t7) →
              wpAny (model X.prog X.w) X.A (do bindName X.env n .none; unbindBehindTheSuite X.env n pp) (fun _ t7 => Q t7) X.xe t6 := fun {g6 J6 Q} S6 hq => gone_ok (S6.unsuite kk) hN hi hl hq
          cases fl with
          | next =>
            obtain ⟨g6, J6, S6, r6⟩ := sp
            exact ends S6 fun t7 V7 => ⟨_, _, V7, r6⟩
          | brk =>
            obtain ⟨g6, J6, S6, r6⟩ := sp
            exact ends S6 fun t7 V7 => ⟨_, _, V7, r6⟩
          | cont =>
            obtain ⟨g6, J6, S6, r6⟩ := sp
            exact ends S6 fun t7 V7 => ⟨_, _, V7, r6⟩
          | ret u =>
            obtain ⟨w6, g6, J6, S6, r6, y6⟩ := sp
            exact ends S6 fun t7 V7 => ⟨_, _, _, V7, r6, y6⟩
        | false =>
          show wpAny _ X.A (handleBy (.ref q) X.env hds2) _ _ _
          exact ih (no rfl)
    exact go hh wx
  · cases fl with
    | next =>
      obtain ⟨g6, J6, V6, r⟩ := hsp
      exact wpAny_execs_nil ⟨g6, J6, V6.ofTry kk, r⟩
    | brk =>
      obtain ⟨g6, J6, V6, r⟩ := hsp
      exact ⟨g6, J6, V6.ofTry kk, r⟩
    | cont =>
      obtain ⟨g6, J6, V6, r⟩ := hsp
      exact ⟨g6, J6, V6.ofTry kk, r⟩
    | ret u =>
      obtain ⟨v6, g6, J6, V6, rv, r⟩ := hsp
      exact ⟨v6, g6, J6, V6.ofTry kk, rv, r⟩
end
/-! ### C(e, .., k = v, ..), keyword-only parameters without defaults, all written in their order -/
section
variable {K : PySem.W.Frag} {x qual : Str} {st : Stmt} {f : Addr} {fd : FuncData} {ps ks : List Str} {n : Nat}
abbrev KBa (K : PySem.W.Frag) (fd : FuncData) (ps : List Str) (n : Nat) (ks : List Str) : Prop := KBn K fd ps n ks (fun us ws => us ++ ws) (fun vs zs => vs ++ zs)
theorem Fun.kba (F : Fun K x qual st f fd)
    (h : ∀ (kV doc pm : Value) (an : Option Addr) (cdv ct : Value) (us ws : List Value), us.length = n → ws.length = ks.length → bindArgs (PySem.W.fnOf x qual (defArgs st) (defBody st) (defScope st) .none kV doc pm an cdv ct) ⟨us, ks.zip ws⟩ = pure (ps.zip (us ++ ws))) : KBa K fd ps n ks := by
  obtain ⟨_, _, kV, doc, pm, an, cdv, ct, _, rfl, _, _⟩ := F.ex
  exact ⟨fun s us ws _ l1 l2 => .of_eq (h kV doc pm an cdv ct us ws l1 l2), fun r1 r2 => r1.append r2⟩
end
structure OwnCK (P : Program) (w : World) (K : PySem.W.Frag) (mg : Str → Option Value) (base : Heap) (CX : CXT) (x : Str) (C : Addr) (k : Nat) (ps : List Str) (n : Nat) (ks : List Str) (sp : Sp) : Prop where
  ex : ∃ (f : Addr) (fd : FuncData), FnOk P w K mg base CX k f fd ps sp ∧ Mk K C f ∧ mg x = some (.ref C) ∧ KBa K fd ps (n + 1) ks
section
variable {X : Cx} {CX : CXT} {k n : Nat} {f C : Addr} {fd : FuncData} {ps ks : List Str} {sp : Sp} {E : St → XK} {x : Str} {p pos : Pos} {e : Expr} {es : List Expr} {kws : List Keyword} {t tk : TA} {W : WX}
/-- the errors wished at the slots -/
def tMakeKS (C : Addr) (n m : Nat) (sp : Sp) (E : St → XK) (t tk : TA) : TE := fun g J Q => t g J fun vs J1 => tk g J1 fun zs J2 => vs.length = n ∧ zs.length = m ∧ ∀ o dx, J2 o = none → J2 dx = none → dx ≠ o →
  sp (.ref o :: vs ++ zs) (upd (upd J2 dx (.own o)) o (.ins C dx [])) (fun v J3 => v = .non ∧ Q (.ref o) J3) (fun cl d J3 => E g cl d J3)
theorem run_makeKS {pins : List (Addr × Obj)} {g : St} {J : Hp} {s : Shared} {Q : VK} {us ws : List Value} {vs zs : List V} (M : Mk X.K C f) (F : FnOk X.prog X.w X.K X.mg X.base CX k f fd ps sp) (hr : Room (k + 1) X.A) (hb : KBa X.K fd ps (n + 1) ks) (hx : PassesAt CX X g (E g))
    (I : Inv X pins g J s) (r : Vals vs us) (rz : Vals zs ws) (l1 : vs.length = n) (l2 : zs.length = ks.length)
    (h : ∀ o dx, J o = none → J dx = none → dx ≠ o → sp (.ref o :: vs ++ zs) (upd (upd J dx (.own o)) o (.ins C dx [])) (fun v J2 => v = .non ∧ Q (.ref o) J2) (E g)) :
    wpAny (model X.prog X.w) X.A (call (.ref C) us (ks.zip ws)) (EP X pins g Q) X.xe s := by
  have want := h (s.heap.objs.size + 1) s.heap.objs.size (I.hok.fresh (Nat.le_succ _)) (I.hok.fresh (Nat.le_refl _)) (Nat.ne_of_lt (Nat.lt_succ_self _))
  have I2 := Inv.made (C := C) I
  have m1 : Vals (V.ref (s.heap.objs.size + 1) :: vs) (Value.ref (s.heap.objs.size + 1) :: us) := .cons rfl r
  have m2 := hb.rel m1 rz
  have k1 : (Value.ref (s.heap.objs.size + 1) :: us).length = n + 1 := by rw [List.length_cons, ← r.length, l1]
  refine wpAny_call (make_map (f := f) I.kIn M.makes M.init (beq_iff_eq.mp M.fn) (codeAny_mono (F.run _ X.stack _ _ ⟨Value.ref (s.heap.objs.size + 1) :: us, ks.zip ws⟩ (Value.ref (s.heap.objs.size + 1) :: us ++ ws) _ _ (E g) (hr.make C us (ks.zip ws))
    (I2.env0.make C us (ks.zip ws)) (hb.to _ (Value.ref (s.heap.objs.size + 1) :: us) ws I2.kIn k1 (rz.length.symm.trans l2)) m2 want) fun z t1 hz => ?_))
  cases z with
  | error u => exact hx pins _ _ u t1 I2 hz
  | ok fl =>
    cases fl with
    | ret u =>
      obtain ⟨v, J3, I3, rv, ev, q3⟩ := I2.after hz
      subst ev
      exact ⟨rv, ⟨V.ref (s.heap.objs.size + 1), J3, I3, rfl, q3⟩⟩
    | next => exact False.elim hz
    | brk => exact False.elim hz
    | cont => exact False.elim hz
theorem pe_newKS (O : OwnCK X.prog X.w X.K X.mg X.base (L2.CX X.prog X.w) x C k ps n ks sp) (hr : Room (k + 1) X.A) (tw : Takes X W) (ha : PA X (e :: es) t) (hkw : PK X kws tk) (hg : Gl X x := by rfl)
    (hall : (backToKw pos (keywordEach kws X.env)).all (·.1.isSome) = true := by rfl) (hks : (backToKw pos (keywordEach kws X.env)).filterMap (·.1) = ks := by rfl) (hdb : (x == ("__debug__" : Str)) = false := by decide)
    (he : starEach (e :: es) X.env = (false, eval e X.env) :: starEach es X.env := by rfl) (hpl : ((backTo pos (starEach (e :: es) X.env)).any (·.1) || (backToKw pos (keywordEach kws X.env)).any (·.1.isNone)) = false := by rfl) :
    PE X (.Call (.Name x p) (e :: es) kws pos) (tMakeKS C n ks.length sp (WE W) t tk) := by
  obtain ⟨f, fd, F, M, hm, hb⟩ := O.ex
  refine ⟨fun pins s g J Q I h => wpAny_Call_Name_kw (ld_glob I hg hm ?_ hdb)⟩
  refine PySem.W.callWith_KW (h₀ := X.base) I.ok.mod.kin M.kp hall (thn (ha.run pos pins s g J _ I h) fun us s1 ⟨vs, J1, I1, r, q⟩ => ?_) hpl he
  refine thn (hkw.run pos pins s1 g J1 _ I1 q) fun ws s2 ⟨zs, J2, I2, rz, l1, l2, q2⟩ => ⟨I2.kIn, ?_⟩
  rw [hks]
  exact run_makeKS M F hr hb (passAt tw g) I2 r rz l1 l2 q2
end
section
variable {X : Cx} {e : Expr} {f : Str} {pos : Pos} {ta : TE}
/-- e.f where the context is not known yet -/
theorem pe_fldA (he : PE X e ta) (hb : attributeBase e f X.env (eval e X.env) = eval e X.env := by rfl) : PE X (.Attribute e f pos) (tFld X.K ta f) := pe_fld he hb
end
end L2

set_option Elab.async false
set_option maxRecDepth 100000
set_option maxHeartbeats 4000000
/-! slices and sums of tuples, whichever object it is -/
namespace L2
open PySem PySem.Spec PyProof.Rows
section
variable {X : Cx}
theorem cut_whole {xs : List V} {lo hi : Option Int} (h : HT.sIx xs.length 0 lo = 0 ∧ HT.sIx xs.length xs.length hi = xs.length) : cutV xs lo hi = xs := by
  unfold cutV
  rw [h.1, h.2]
  simp
/-- a slice of a tuple, whichever object it is -/
def rSlE : V → Option Int → Option Int → Hp → VK → Prop := fun x lo hi H Q => ∃ a xs, x = .ref a ∧ H a = some (.tup xs) ∧ ∀ p H', Ext H H' → H' p = some (.tup (cutV xs lo hi)) → Q (.ref p) H'
theorem sl_tupE : SlR X rSlE := by
  intro pins s σ H x v vl vu lo hi sl Q I rx hs pl pu h
  obtain ⟨a, xs, rfl, ha, q⟩ := h
  exact sl_tupA pins s σ H _ v vl vu lo hi sl Q I rx hs pl pu ⟨a, xs, rfl, SqT.of ha, fun hw => q a H Ext.rfl' (by rw [cut_whole hw]; exact ha), fun _ p hp => q p _ (Ext.upd hp) upd_same⟩
/-- the sum of two tuples, whichever object it is -/
def rCatE : R2 := fun x y H Q => ∃ a b xs ys, x = .ref a ∧ y = .ref b ∧ H a = some (.tup xs) ∧ H b = some (.tup ys) ∧ xs.length + ys.length ≤ sizeLine ∧ ∀ p H', Ext H H' → H' p = some (.tup (xs ++ ys)) → Q (.ref p) H'
theorem op_catE : OpR X (binaryOp .Add) rCatE := by
  intro pins s σ H x y v u Q I rx ry h
  obtain ⟨a, b, xs, ys, rfl, rfl, ha, hb, hz, q⟩ := h
  refine op_catA pins s σ H _ _ v u Q I rx ry ⟨a, b, xs, ys, rfl, rfl, SqT.of ha, SqT.of hb, hz, fun e => q b H Ext.rfl' ?_, fun _ e => q a H Ext.rfl' ?_, fun _ _ p hp => q p _ (Ext.upd hp) upd_same⟩
  · subst e
    exact hb
  · subst e
    rw [List.append_nil]
    exact ha
end
end L2

set_option Elab.async false
set_option linter.all false
set_option maxRecDepth 100000
set_option maxHeartbeats 4000000
/-! one of two readings; tuple.index of flat items; an own __contains__ -/
namespace PySem.W
open PySem PySem.Calls PyProof.Rows
section
variable {prog : Program} {w : World} {A : Around} {E : Value → Shared → Prop} {s : Shared} {K : Frag} {x C f : Addr} {ox : Obj} {od : Option Obj}
theorem contains_fn {v : Value} {Q : Bool → Shared → Prop} (X : K.In s.heap) (I : InstAt s.heap x ox C od) (hs : findIn K (.ref C) "__contains__" = some (some (.ref f))) (hf : isFn K (.ref f) = true)
    (h : wpAny (model prog w) A (call (.ref f) [.ref x, v]) (fun r s' => ∃ b, r = .bool b ∧ Q b s') E s) : wpAny (model prog w) A (contains (.ref x) v) Q E s := by
  unfold contains
  refine wpAny_holding ?_
  have e1 : stdlibNamesSay? (.ref x) v = none := rfl
  rw [e1]
  refine wpAny_bind (wpAny_bind (I.type.here ((looks_findIn X hs).here ?_)))
  show wpAny _ _ (if (some (Value.ref f) == some Value.none) = true then _ else _) _ _ _
  rw [if_neg (by simp)]
  refine wpAny_bind (m := callSpecialUnlessNone? (.ref x) _ _ _) ?_
  unfold callSpecialUnlessNone?
  refine wpAny_bind (wpAny_bind (I.type.here ((looks_findIn X hs).here ?_)))
  refine wpAny_holding (wpAny_bind ((bind_fn X _ (beq_iff_eq.mp hf)).here ?_))
  show wpAny _ _ (if (Value.ref f == Value.none) = true then _ else _) _ _ _
  rw [if_neg (by simp)]
  refine wpAny_bind (wpAny_mono h (fun r s' z => ?_) fun _ _ z => z)
  obtain ⟨b, rfl, q⟩ := z
  exact wpAny_pure (wpAny_truthy_bool q)
end
end PySem.W
namespace L2
open PySem PySem.Spec PyProof.Rows
section
variable {X : Cx}
theorem pe_either {ex : Expr} {t1 t2 : TE} (h1 : PE X ex t1) (h2 : PE X ex t2) : PE X ex (fun g J Q => t1 g J Q ∨ t2 g J Q) := ⟨fun pins s g J Q I h => h.elim (fun z => h1.run pins s g J Q I z) (fun z => h2.run pins s g J Q I z)⟩
def rIndexT (K : PySem.W.Frag) : V → List V → Hp → VK → Prop := fun o vs J Q => ∃ (p : Addr) (ts : List V) (e : V) (n : Nat) (c : V), o = V.ref p ∧ vs = [e] ∧ SqT K J p ts ∧ flatV e = true ∧ ts.all flatV = true ∧ ts[n]? = some c ∧ eqV c e = true ∧
  (∀ (m : Nat) (c' : V), m < n → ts[m]? = some c' → eqV c' e = false) ∧ Q (.int (n : Nat)) J
theorem mt_tupIndex : MtR X "tuple.index" (rIndexT X.K) := by
  intro pins s g J o vs v us Q I ro rvs h
  obtain ⟨p, ts, e, n, c, rfl, rfl, ht, fe, fts, hc, hce, no, q⟩ := h
  cases ro
  cases rvs with
  | cons re rt =>
    rename_i ue ut
    cases rt
    obtain ⟨its, rv, ⟨⟨cls, dd, dt, sl⟩, ho, hcl, nn, hd⟩, hz⟩ := I.tuple ht
    simp only at hcl hd
    subst hcl hd
    obtain ⟨u, hu, ru⟩ := rv.get hc
    obtain ⟨nl, ne⟩ := List.getElem?_eq_some_iff.mp hu
    have hvl := rv.length
    have hn : n < its.toArray.size := by simpa using nl
    refine call_meets PySem.F.slot_tuple_index ⟨_, ho, rfl⟩ PySem.F.entry_tuple_index (PySem.F.args_tuple_index_2 _ _) (TI.tuple_indexAt p its.toArray nn dd sl ue (eqU e) n hn ?_ ?_)
      ⟨ho, fun w hw => mem_eqAt re fe rv fts w (by simpa using hw), ?_⟩
    · have e1 : its.toArray[n] = u := by simpa using ne
      rw [e1, eqU_of ru (flat_at fts hc)]
      exact hce
    · intro m hm hmn
      have ml : m < its.length := by simpa using hm
      have mt : m < ts.length := by omega
      have gm : ts[m]? = some ts[m] := List.getElem?_eq_getElem mt
      obtain ⟨u2, hu2, ru2⟩ := rv.get gm
      obtain ⟨_, me⟩ := List.getElem?_eq_some_iff.mp hu2
      have e2 : its.toArray[m] = u2 := by simpa using me
      rw [e2, eqU_of ru2 (flat_at fts gm)]
      exact no m _ hmn gm
    · exact ⟨.int (n : Nat), J, I.tok _, ⟨_, rfl⟩, q⟩
end
section
variable {X : Cx} {CX : CXT} {k : Nat} {f C : Addr} {fd : FuncData} {ps : List Str} {sp : Sp}
/-- x in o, o an instance of the class at C with an own __contains__ -/
def rInO (C : Addr) (sp : Sp) : R2 := fun x y H Q => ∃ a dx fs, y = .ref a ∧ H a = some (.ins C dx fs) ∧ sp [y, x] H (fun v H' => ∃ b, v = .bl b ∧ Q (.bl b) H') E0
theorem op_inO (F : FnOk X.prog X.w X.K X.mg X.base CX k f fd ps sp) (hs : PySem.W.findIn X.K (.ref C) "__contains__" = some (some (.ref f))) (hf : PySem.W.isFn X.K (.ref f) = true) (hr : Room k X.A) (hb : Binds X.K fd ps []) (hx : Passes CX X E0) : OpR X (compareOp .In) (rInO C sp) := by
  intro pins s g J x y v u Q I rx ry hq
  obtain ⟨a, dx, fs, rfl, ha, q⟩ := hq
  cases (show u = Value.ref a from ry)
  obtain ⟨mA, O, _⟩ := ins_get I.hok ha
  obtain ⟨od, O, _⟩ := O.look
  show wpAny (model X.prog X.w) X.A (contains (.ref a) v >>= fun b => pure (.bool b)) (EP X pins g Q) X.xe s
  refine wpAny_bind (PySem.W.contains_fn I.kIn O hs hf (wpAny_mono (run_at (vs := [.ref a, x]) F hr rfl hb hx I (.cons rfl (.cons rx .nil)) q) (fun r s' z => ?_) fun _ _ e => e))
  obtain ⟨w', J', I', rv, b, rfl, q'⟩ := z
  cases rv
  exact ⟨b, rfl, wpAny_pure ⟨.bl b, J', I', rfl, q'⟩⟩
theorem inO {m : Nat} (O : OwnM X.prog X.w X.K X.mg X.base CX C "__contains__" m ps sp) (hr : Room m X.A) (hx : Passes CX X E0) : OpR X (compareOp .In) (rInO C sp) := by
  obtain ⟨f, fd, F, M, hi, hb⟩ := O.ex
  exact op_inO F M.at_ hi hr hb hx
end
end L2

set_option Elab.async false
set_option maxRecDepth 100000
set_option maxHeartbeats 4000000
/-! ranges with a step made lists and tuples; zip of two tuples in a comprehension; a def that is held by a name -/
namespace L2
open PySem PySem.Spec PyProof.Rows
theorem pss_dead {X : Cx} {ss : List Stmt} : PSs X ss (fun _ _ _ => False) := ⟨fun _ _ _ _ _ _ h => h.elim⟩
/-- the def at f keeps its promise -/
structure OwnAt (P : Program) (w : World) (K : PySem.W.Frag) (mg : Str → Option Value) (base : Heap) (CX : CXT) (f : Addr) (k : Nat) (ps : List Str) (sp : Sp) : Prop where
  ex : ∃ fd, FnOk P w K mg base CX k f fd ps sp ∧ PySem.W.keepIn K (.ref f) = true ∧ Binds K fd ps []
theorem Own.at_ {P : Program} {w : World} {K : PySem.W.Frag} {mg : Str → Option Value} {base : Heap} {CX : CXT} {x : Str} {k : Nat} {ps : List Str} {sp : Sp} (O : Own P w K mg base CX x k ps sp) : ∃ f, mg x = some (.ref f) ∧ OwnAt P w K mg base CX f k ps sp := by
  obtain ⟨f, fd, F, hm, hk, hb⟩ := O.ex
  exact ⟨f, hm, fd, F, hk, hb⟩
section
variable {X : Cx} {CX : CXT} {x : Str} {k i : Nat} {f : Addr} {ps : List Str} {sp : Sp} {e : Expr} {es : List Expr} {t : TA} {p pos : Pos}
/-- the i-th slot holds f, which is called; W is wished for what it raises -/
def tCallVS (i : Nat) (f : Addr) (sp : Sp) (E : St → XK) (t : TA) : TE := fun σ H Q => σ[i]? = some (some (.ref f)) ∧ t σ H fun vs H1 => sp vs H1 Q (E σ)
theorem pe_ownVS {W : WX} (O : OwnAt X.prog X.w X.K X.mg X.base (L2.CX X.prog X.w) f k ps sp) (hr : Room k X.A) (tk : Takes X W) (hN : X.N[i]? = some x) (hv : Vis X.env.scope x) (ha : PA X (e :: es) t)
    (hdb : (x == ("__debug__" : Str)) = false := by decide) (hcd : (x == ("__classdict__" : Str)) = false := by decide)
    (he : starEach (e :: es) X.env = (false, eval e X.env) :: starEach es X.env := by rfl) (hpl : (backTo pos (starEach es X.env)).any (·.1) = false := by rfl) : PE X (.Call (.Name x p) (e :: es) [] pos) (tCallVS i f sp (WE W) t) := by
  obtain ⟨fd, F, hk, hb⟩ := O.ex
  refine ⟨fun pins s σ H Q I h => ?_⟩
  obtain ⟨hσ, h⟩ := h
  refine PyProof.Rows.Call_ (thn ((pe_var (pos := p) hN hv hdb hcd).run pins s σ H (fun y H1 => y = .ref f ∧ H1 = H) I ⟨_, hσ, rfl, rfl⟩) fun u s1 ⟨y, H1, I1, rx, ex, eh⟩ => ?_) rfl
  subst ex eh
  obtain rfl : u = Value.ref f := rx
  refine PySem.W.callWith_K (h₀ := X.base) I1.ok.mod.kin hk (thn (ha.run pos pins s1 σ H1 _ I1 h) fun us s2 ⟨vs, H2, I2, r, q⟩ => ⟨I2.kIn, ?_⟩) he hpl
  exact run_fnSD (us := us) (vs := vs) F hr hb .nil (passAt tk σ) I2 r (by rw [List.append_nil]; exact q)
end
/-! zip of two tuples -/
section
variable {K : PySem.W.Frag} {a b : Addr} {xs ys : List V}
theorem walk_zipT {n : Nat} (hn : n = min xs.length ys.length) : Walk (RZ.ItzT K a b) n (fun H => SqT K H a xs ∧ SqT K H b ys) (YPair (fun i => xs[i]?) (fun i => ys[i]?)) := by
  refine ⟨fun i _ hi q => ⟨xs, ys, xs[i]'(by omega), ys[i]'(by omega), q.1, q.2, List.getElem?_eq_getElem (by omega), List.getElem?_eq_getElem (by omega)⟩, fun _ q => ⟨xs, ys, q.1, q.2, by omega⟩, fun i H v H' _ q y => ?_⟩
  obtain ⟨T, x, y, e1, e2, e3, h1, h2⟩ := y
  exact ⟨T, x, y, e1, e2, e3, h1 xs q.1, h2 ys q.2⟩
end
/-! ranges with a step -/
section
variable {X : Cx}
def PRg3 (X : Cx) (e : Expr) (t : St → Hp → (Int → Int → Int → Hp → Prop) → Prop) : Prop :=
  ∀ (pins : List (Addr × Obj)) (s : Shared) (σ : St) (H : Hp) (Q : Int → Int → Int → Hp → Prop), Inv X pins σ H s → t σ H Q →
    wpAny (model X.prog X.w) X.A (eval e X.env) (fun x s' => ∃ r a b c t u v H', x = Value.ref r ∧ IsRange s'.heap r a b c t u v ∧ Inv X pins σ H' s' ∧ Q a b c H') X.xe s
def tRg3 (t : TA) (σ : St) (H : Hp) (Q : Int → Int → Int → Hp → Prop) : Prop := t σ H fun vs H1 => ∃ a b c, vs = [.int a, .int b, .int c] ∧ c ≠ 0 ∧ (-(2 ^ 62) ≤ a ∧ a < 2 ^ 62 ∧ -(2 ^ 62) ≤ b ∧ b < 2 ^ 62 ∧ c.natAbs < 1073741824) ∧ Q a b c H1
end
end L2

set_option Elab.async false
set_option maxRecDepth 100000
set_option maxHeartbeats 4000000
/-! comprehensions over ranges and over zip of two tuples, told by the place; what is tested and made only adds to the heap -/
namespace L2
open PySem PySem.Spec PyProof.Rows
/-- a comprehension's turns -/
abbrev LcGo (J : It) (g : TG) (tt : TT) (te : TE) (vs : List Nat) (σ : St) (H1 : Hp) (D : Addr) (Qd : Hp → Prop) : Prop :=
  ∃ W : Nat → Nat → Hp → Prop, (∃ m, W 0 m (upd H1 D (.lst []))) ∧ ∀ i m H, W i m H →
    (J.stop i H ∧ Qd H) ∨ (J.go i H ∧ ∃ Nx : Hp → Prop, (∀ H', Nx H' → ∃ m', m' < m ∧ W (i + 1) m' H') ∧ ∀ x H', J.yld i H x H' → g x (wipe σ vs) H' fun σ2 H2 => wipe σ2 vs = wipe σ vs ∧ tt σ2 H2 fun b H3 =>
      if b = true then te σ2 H3 fun y H4 => ∃ acc, H4 D = some (.lst acc) ∧ acc.length < sizeLine ∧ Nx (upd H4 D (.lst (acc ++ [y]))) else Nx H3)
theorem range_snoc (n : Nat) : List.range (n + 1) = List.range n ++ [n] := List.range_succ
section
variable {K : PySem.W.Frag} {σ : St} {H : Hp} {te : TE} {tt : TT} {vs : List Nat}
theorem lc_turn {f : Nat → V} {b : Nat → Bool} {D : Addr} {i n : Nat} {σ2 : St} {H' : Hp} (hD : H D = none) (hz : n < sizeLine) (hi : i < n) (hw : wipe σ2 vs = wipe σ vs) (e : Ext H H') (hl : H' D = some (.lst (((List.range i).filter b).map f)))
    (ht : ∀ Q : Bool → Hp → Prop, (∀ H'', Ext H' H'' → Q (b i) H'') → tt σ2 H' Q) (he : b i = true → ∀ H3, Ext H' H3 → ∀ Q : VK, (∀ H'', Ext H3 H'' → Q (f i) H'') → te σ2 H3 Q) :
    wipe σ2 vs = wipe σ vs ∧ tt σ2 H' fun b' H3 => if b' = true then te σ2 H3 fun y H4 => ∃ acc, H4 D = some (.lst acc) ∧ acc.length < sizeLine ∧ (Ext H (upd H4 D (.lst (acc ++ [y]))) ∧ upd H4 D (.lst (acc ++ [y])) D = some (.lst (((List.range (i + 1)).filter b).map f)))
      else (Ext H H3 ∧ H3 D = some (.lst (((List.range (i + 1)).filter b).map f))) := by
  refine ⟨hw, ht _ fun H3 e3 => ?_⟩
  have hl3 := e3 _ _ hl
  cases hb : b i with
  | true =>
    refine iteT (he hb H3 e3 _ fun H4 e4 => ⟨_, e4 _ _ hl3, ?_, ext_mut ((e.trans e3).trans e4) hD, ?_⟩)
    · rw [List.length_map]
      refine Nat.lt_of_le_of_lt (Nat.le_trans (List.length_filter_le _ _) ?_) hz
      rw [List.length_range]
      omega
    · rw [upd_same, range_snoc, List.filter_append, List.map_append]
      simp [hb]
  | false =>
    refine iteF ⟨e.trans e3, ?_⟩
    rw [hl3, range_snoc, List.filter_append, List.map_append]
    simp [hb]
theorem lc_rgR {Qd : Addr → Hp → Prop} {lo : Int} {n j : Nat} {f : Nat → V} {b : Nat → Bool} (hz : n < sizeLine) (hw : ∀ x, wipe ((wipe σ vs).set j (some x)) vs = wipe σ vs)
    (ht : ∀ i, i < n → ∀ H', Ext H H' → ∀ Q : Bool → Hp → Prop, (∀ H'', Ext H' H'' → Q (b i) H'') → tt ((wipe σ vs).set j (some (.int (lo + i)))) H' Q)
    (he : ∀ i, i < n → b i = true → ∀ H', Ext H H' → ∀ Q : VK, (∀ H'', Ext H' H'' → Q (f i) H'') → te ((wipe σ vs).set j (some (.int (lo + i)))) H' Q)
    (q : ∀ D H', H D = none → Ext H H' → H' D = some (.lst (((List.range n).filter b).map f)) → Qd D H') : ∀ D, H D = none → LcGo (Itr lo n) (gName j) tt te vs σ H D (Qd D) := fun D hD =>
  lc_range (fun i H' => Ext H H' ∧ H' D = some (.lst (((List.range i).filter b).map f))) ⟨Ext.upd hD, upd_same⟩ (fun i H' hi pv => lc_turn hD hz hi (hw _) pv.1 pv.2 (ht i hi H' pv.1) fun hb H3 e3 => he i hi hb H3 (pv.1.trans e3)) (fun H' pv => q D H' hD pv.1 pv.2)
theorem lc_zipR {Qd : Addr → Hp → Prop} {a b2 : Addr} {xs ys : List V} {n i1 i2 : Nat} {f : Nat → V} {b : Nat → Bool} (hx : SqT K H a xs) (hy : SqT K H b2 ys) (hn : n = min xs.length ys.length) (hz : n < sizeLine)
    (hw : ∀ x y, wipe (((wipe σ vs).set i1 (some x)).set i2 (some y)) vs = wipe σ vs)
    (ht : ∀ i x y, i < n → xs[i]? = some x → ys[i]? = some y → ∀ H', Ext H H' → ∀ Q : Bool → Hp → Prop, (∀ H'', Ext H' H'' → Q (b i) H'') → tt (((wipe σ vs).set i1 (some x)).set i2 (some y)) H' Q)
    (he : ∀ i x y, i < n → xs[i]? = some x → ys[i]? = some y → b i = true → ∀ H', Ext H H' → ∀ Q : VK, (∀ H'', Ext H' H'' → Q (f i) H'') → te (((wipe σ vs).set i1 (some x)).set i2 (some y)) H' Q)
    (q : ∀ D H', H D = none → Ext H H' → H' D = some (.lst (((List.range n).filter b).map f)) → Qd D H') : ∀ D, H D = none → LcGo (RZ.ItzT K a b2) (gTup K 2 (gCons (gName i1) (gCons (gName i2) gNil))) tt te vs σ H D (Qd D) := fun D hD => by
  refine lc_it (walk_zipT (K := K) (a := a) (b := b2) (xs := xs) (ys := ys) hn) (fun i H' => Ext H H' ∧ H' D = some (.lst (((List.range i).filter b).map f))) ⟨Ext.upd hD, upd_same⟩ (fun i H' _ pv => ⟨hx.ext pv.1, hy.ext pv.1⟩) (fun i v H' H'' hi pv y => ?_) (fun H' pv => q D H' hD pv.1 pv.2)
  obtain ⟨T, x, y, rfl, hT, rfl, h1, h2⟩ := y
  have eT := Ext.upd (o := .tup [x, y]) hT
  refine ⟨T, [x, y], rfl, SqT.of upd_same, rfl, x, [y], rfl, y, [], rfl, rfl, ?_⟩
  exact lc_turn hD hz hi (hw _ _) (pv.1.trans eT) (eT _ _ pv.2) (ht i x y hi h1 h2 _ (pv.1.trans eT)) fun hb H3 e3 => he i x y hi h1 h2 hb H3 ((pv.1.trans eT).trans e3)
end
end L2

set_option Elab.async false
set_option maxRecDepth 100000
set_option maxHeartbeats 4000000
/-! rules with the kit's own part named, for what stands within a comprehension -/
namespace L2
open PySem PySem.Spec PyProof.Rows
section
variable {X : Cx} {K : PySem.W.Frag}
theorem ix_tupK (h : X.K = K) : IxR X (rIxT K) := by
  subst h
  exact ix_tup
theorem ix_listK (h : X.K = K) : IxR X (rIxL K) := by
  subst h
  exact ix_list
theorem cr_maxK (h : X.K = K) (hc : X.calm = true) : CallR X (.builtin "max") (rMax K) := by
  subst h
  exact cr_max hc
theorem cr_minK (h : X.K = K) (hc : X.calm = true) : CallR X (.builtin "min") (rMin K) := by
  subst h
  exact cr_min hc
theorem pe_fldK {e : Expr} {ta : TE} {f : Str} {pos : Pos} (h : X.K = K) (he : PE X e ta) (hb : attributeBase e f X.env (eval e X.env) = eval e X.env := by rfl) : PE X (.Attribute e f pos) (tFld K ta f) := by
  subst h
  exact pe_fld he hb
def iListK (K : PySem.W.Frag) (tl : TE) : TI := fun σ H R => tl σ H fun x H1 => ∃ a, x = .ref a ∧ (∃ xs, SqL K H1 a xs) ∧ R (Itl K a) H1
theorem pi_listK {tg l : Expr} {tl : TE} (h : X.K = K) (hl : PE X l tl) : PI X tg l (iListK K tl) := by
  subst h
  exact pi_list hl
def rTupOfK (K : PySem.W.Frag) : List V → Hp → VK → Prop := fun xs H Q => ∃ p ys, xs = [.ref p] ∧ ((SqL K H p ys ∧ ∀ l, H l = none → Q (.ref l) (upd H l (.tup ys))) ∨ (SqT K H p ys ∧ Q (.ref p) H))
theorem call_tuple_ofK (h : X.K = K) : CallR X (.type "tuple") (rTupOfK K) := by
  subst h
  exact call_tuple_of
def rListOfK (K : PySem.W.Frag) : List V → Hp → VK → Prop := fun xs H Q => ∃ p ys, xs = [.ref p] ∧ (SqL K H p ys ∨ SqT K H p ys) ∧ ∀ l, H l = none → Q (.ref l) (upd H l (.lst ys))
theorem call_list_ofK (h : X.K = K) : CallR X (.type "list") (rListOfK K) := by
  subst h
  exact call_list_of
end
end L2

set_option Elab.async false
set_option maxRecDepth 100000
set_option maxHeartbeats 4000000
/-! list(zip(a, b)) of two lists -/
namespace PySem
theorem zip_no_len : typeLookup (Value.type "zip") (Str.ofString "__len__") = pure none := am_miss_of_fast (by decide +kernel)
theorem zip_no_hint : typeLookup (Value.type "zip") (Str.ofString "__length_hint__") = pure none := am_miss_of_fast (by decide +kernel)
/-- what has been given out -/
structure ZGiven (h : Heap) (lo : Addr) (acc : Array Value) (xs ys : Array Value) (i : Nat) (as : List Addr) : Prop where
  acc : acc.toList = as.map Value.ref
  len : as.length = i
  rise : List.Pairwise (· < ·) as
  above : ∀ a ∈ as, lo < a
  below : ∀ a ∈ as, a < h.objs.size
  pairs : ∀ (j : Nat) (a : Addr), as[j]? = some a → ∃ x y, xs[j]? = some x ∧ ys[j]? = some y ∧ IsPair h a x y
/-- how the zip stands -/
structure ZSt (h : Heap) (z TI TO i1 i2 l1 l2 : Addr) (xs ys : Array Value) (i : Nat) : Prop where
  first : i = 0 → ∃ a b, IsZip h z TI TO .none ∧ IsPair h TO a b
  later : 0 < i → ∃ T f x y, IsZipHeld h z TI TO T f ∧ IsPair h T x y
  ti : IsPair h TI (.ref i1) (.ref i2)
  it1 : h.IsListIter i1 l1 i
  it2 : h.IsListIter i2 l2 i
  li1 : h.IsList l1 xs
  li2 : h.IsList l2 ys
structure ZOff (S z TI TO i1 i2 l1 l2 : Addr) : Prop where
  z : S ≠ z
  ti : S ≠ TI
  to : S ≠ TO
  i1 : S ≠ i1
  i2 : S ≠ i2
  l1 : S ≠ l1
  l2 : S ≠ l2
section
variable {prog : Program} {w : World} {A : Around} {z TI TO i1 i2 l1 l2 S lo : Addr} {xs ys : Array Value} {i : Nat} {h h' : Heap}
theorem ZGiven.next {acc : Array Value} {as : List Addr} {T : Addr} {x y : Value} (g : ZGiven h lo acc xs ys i as) (hT : T = h.objs.size) (hlo : lo < T) (hsz : h'.objs.size = h.objs.size + 1) (hx : xs[i]? = some x) (hy : ys[i]? = some y) (hp : IsPair h' T x y)
    (hk : ∀ a ∈ as, ∀ x y, IsPair h a x y → IsPair h' a x y) : ZGiven h' lo (acc.push (.ref T)) xs ys (i + 1) (as ++ [T]) where
  acc := by rw [Array.toList_push, g.acc, List.map_append]; rfl
  len := by rw [List.length_append, g.len]; rfl
  rise := by
    rw [List.pairwise_append]
    refine ⟨g.rise, List.pairwise_singleton _ _, fun a ha b hb => ?_⟩
    rw [List.mem_singleton.mp hb, hT]
    exact g.below a ha
  above := fun a ha => by
    rcases List.mem_append.mp ha with ha | ha
    · exact g.above a ha
    · rw [List.mem_singleton.mp ha]
      exact hlo
  below := fun a ha => by
    rw [hsz]
    rcases List.mem_append.mp ha with ha | ha
    · exact Nat.lt_succ_of_lt (g.below a ha)
    · rw [List.mem_singleton.mp ha, hT]
      exact Nat.lt_succ_self _
  pairs := fun j a hj => by
    by_cases e : j < as.length
    · rw [List.getElem?_append_left e] at hj
      obtain ⟨x', y', h1, h2, h3⟩ := g.pairs j a hj
      exact ⟨x', y', h1, h2, hk a (List.mem_of_getElem? hj) _ _ h3⟩
    · have hl := (List.getElem?_eq_some_iff.mp hj).1
      rw [List.length_append] at hl
      have hl1 : [T].length = 1 := rfl
      have ej : j = as.length := by omega
      rw [List.getElem?_append_right (by omega), ej, Nat.sub_self] at hj
      cases hj
      rw [ej, g.len]
      exact ⟨x, y, hx, hy, hp⟩
theorem ZGiven.upd {acc : Array Value} {as : List Addr} {f : Obj → Obj} {oS : Obj} (g : ZGiven h lo acc xs ys i as) (hS : h.get? S = some oS) (hc : oS.cls = .type "list") : ZGiven (h.update S f) lo acc xs ys i as where
  acc := g.acc
  len := g.len
  rise := g.rise
  above := g.above
  below := fun a ha => by rw [Heap.size_update]; exact g.below a ha
  pairs := fun j a hj => by
    obtain ⟨x, y, h1, h2, h3⟩ := g.pairs j a hj
    refine ⟨x, y, h1, h2, ?_⟩
    have ne : S ≠ a := fun e => by
      subst e
      have h4 : h.get? S = some _ := h3
      rw [hS] at h4
      cases h4
      exact absurd (show Value.type "tuple" = Value.type "list" from hc) (by decide)
    show (h.update S f).get? a = _
    rw [Heap.get?_update_other h f ne]
    exact h3
theorem ZSt.upd {f : Obj → Obj} (s : ZSt h z TI TO i1 i2 l1 l2 xs ys i) (o : ZOff S z TI TO i1 i2 l1 l2) {oS : Obj} (hS : h.get? S = some oS) (hc : oS.cls = .type "list") : ZSt (h.update S f) z TI TO i1 i2 l1 l2 xs ys i where
  first := fun e => by
    obtain ⟨a, b, h1, h2⟩ := s.first e
    exact ⟨a, b, (Heap.get?_update_other h f o.z).trans h1, (Heap.get?_update_other h f o.to).trans h2⟩
  later := fun e => by
    obtain ⟨T, b, x, y, h1, h2⟩ := s.later e
    have ne : S ≠ T := fun e => by
      subst e
      have h4 : h.get? S = some _ := h2
      rw [hS] at h4
      cases h4
      exact absurd (show Value.type "tuple" = Value.type "list" from hc) (by decide)
    exact ⟨T, b, x, y, (Heap.get?_update_other h f o.z).trans h1, (Heap.get?_update_other h f ne).trans h2⟩
  ti := (Heap.get?_update_other h f o.ti).trans s.ti
  it1 := by
    obtain ⟨q, h1, h2⟩ := s.it1
    exact ⟨q, (Heap.get?_update_other h f o.i1).trans h1, h2⟩
  it2 := by
    obtain ⟨q, h1, h2⟩ := s.it2
    exact ⟨q, (Heap.get?_update_other h f o.i2).trans h1, h2⟩
  li1 := by
    obtain ⟨q, h1, h2⟩ := s.li1
    exact ⟨q, (Heap.get?_update_other h f o.l1).trans h1, h2⟩
  li2 := by
    obtain ⟨q, h1, h2⟩ := s.li2
    exact ⟨q, (Heap.get?_update_other h f o.l2).trans h1, h2⟩
theorem zip_loop (hh : A.in1.handled = none) (D : ZipApart z TI TO i1 i2 l1 l2) (o : ZOff S z TI TO i1 i2 l1 l2) (res : Value) {n : Nat} (hn : n = min xs.size ys.size) (hz : n + 1 ≤ sizeLine) {g : Array GenState} {d : _} {tk : Nat} {os : _} {R : Result → Shared → Prop} :
    ∀ (k i : Nat) (h : Heap) (acc : Array Value) (c : Nat) (as : List Addr), n - i = k → i ≤ n → ZSt h z TI TO i1 i2 l1 l2 xs ys i → h.get? S = some { cls := .type "list", data := .seq acc c } → lo < h.objs.size → ZGiven h lo acc xs ys i as →
      (∀ (h' : Heap) (acc' : Array Value) (c' : Nat) (as' : List Addr), (∀ b ob, b ≠ S → b ≠ z → b ≠ TO → b ≠ i1 → b ≠ i2 → h.get? b = some ob → h'.get? b = some ob) → h'.get? S = some { cls := .type "list", data := .seq acc' c' } → ZGiven h' lo acc' xs ys n as' → R (.ok (.ret res)) ⟨h', g, d, tk, os⟩) →
      codeAny (model prog w) A (.builtin "list.extend.loop" ⟨[.ref S, .ref z, res], []⟩) R ⟨h, g, d, tk, os⟩ := by
  intro k
  induction k with
  | zero =>
    intro i h acc c as hk hi st hS hlo gv hR
    have ei : i = n := by omega
    subst ei
    refine codeAny_builtin F.entry_extend_loop ?_
    rw [Around.under_plainId F.plain_extend_loop]
    refine wpAny_bind ?_
    have hend : xs[i]? = none ∨ ys[i]? = none := by
      rcases Nat.le_total xs.size ys.size with e | e
      · left
        exact Array.getElem?_eq_none (by omega)
      · right
        exact Array.getElem?_eq_none (by omega)
    by_cases h0 : i = 0
    · obtain ⟨a, b, hz1, hto⟩ := st.first h0
      refine wpAny_pyNext_zip_end hh D hz1 st.ti hto st.it1 st.it2 st.li1 st.li2 hend fun h' hk' => ?_
      refine wpAny_pure (hR h' acc c as (fun b ob b1 b2 b3 b4 b5 e => hk' b ob b2 b3 b4 b5 e) (hk' S _ o.z o.to o.i1 o.i2 hS) ?_)
      have has : as = [] := List.eq_nil_of_length_eq_zero (gv.len.trans h0)
      subst has
      exact ⟨gv.acc, gv.len, gv.rise, gv.above, (fun a ha => by cases ha), fun j a hj => by cases hj⟩
    · obtain ⟨T, f, tx, ty, hz1, hT⟩ := st.later (by omega)
      refine wpAny_pyNext_zip_end_held hh D hz1 hT st.ti st.it1 st.it2 st.li1 st.li2 hend fun h' hk' => ?_
      refine wpAny_pure (hR h' acc c as (fun b ob b1 b2 b3 b4 b5 e => hk' b ob b2 b4 b5 e) (hk' S _ o.z o.i1 o.i2 hS) ?_)
      have keep : ∀ a ∈ as, ∀ x y, IsPair h a x y → IsPair h' a x y := fun a ha x y hp => by
        refine hk' a _ (fun e => ?_) (fun e => ?_) (fun e => ?_) hp
        · subst e
          have q : h.get? a = some _ := hp
          rw [show h.get? a = some _ from hz1] at q
          injection q with q
          injection q with q
          exact absurd q (by decide)
        · subst e
          obtain ⟨ob, q1, q2, _⟩ := st.it1
          rw [show h.get? a = some _ from hp] at q1
          cases q1
          exact absurd (show Value.type "tuple" = Value.type "list_iterator" from q2) (by decide)
        · subst e
          obtain ⟨ob, q1, q2, _⟩ := st.it2
          rw [show h.get? a = some _ from hp] at q1
          cases q1
          exact absurd (show Value.type "tuple" = Value.type "list_iterator" from q2) (by decide)
      refine ⟨gv.acc, gv.len, gv.rise, gv.above, fun a ha => ?_, fun j a hj => ?_⟩
      · obtain ⟨j, hj⟩ := List.getElem?_of_mem ha
        obtain ⟨x, y, _, _, hp⟩ := gv.pairs j a hj
        exact Heap.lt_size (keep a ha _ _ hp)
      · obtain ⟨x, y, h1, h2, hp⟩ := gv.pairs j a hj
        exact ⟨x, y, h1, h2, keep a (List.mem_of_getElem? hj) _ _ hp⟩
  | succ k ih =>
    intro i h acc c as hk hi st hS hlo gv hR
    refine codeAny_builtin F.entry_extend_loop ?_
    rw [Around.under_plainId F.plain_extend_loop]
    refine wpAny_bind ?_
    obtain ⟨x, hx⟩ : ∃ x, xs[i]? = some x := ⟨_, Array.getElem?_eq_getElem (by omega)⟩
    obtain ⟨y, hy⟩ : ∃ y, ys[i]? = some y := ⟨_, Array.getElem?_eq_getElem (by omega)⟩
    have step : ∀ h' : Heap, ZSt h' z TI TO i1 i2 l1 l2 xs ys (i + 1) → IsPair h' h.objs.size x y → h'.objs.size = h.objs.size + 1 → (∀ b ob, b ≠ z → b ≠ TO → b ≠ i1 → b ≠ i2 → h.get? b = some ob → h'.get? b = some ob) → (∀ a ∈ as, ∀ x y, IsPair h a x y → IsPair h' a x y) →
        wpAny (model prog w) A.in1 (do
          Builtin.List.listUpdate (Value.ref S) fun q => q.push (.ref h.objs.size)
          again (Code.builtin "list.extend.loop" ⟨[.ref S, .ref z, res], []⟩)) (fun fin s' => match fin with
          | Fin.done f => R (Except.ok f) s'
          | Fin.again c' => c'.quiet = true ∧ codeAny (model prog w) A c' R s') (fun e s' => R (Except.error e) s') ⟨h', g, d, tk, os⟩ := fun h' st' hp hsz hk' hkp => by
      have hS' : h'.get? S = some { cls := .type "list", data := .seq acc c } := hk' S _ o.z o.to o.i1 o.i2 hS
      have hal : acc.size = i := by
        have e1 := congrArg List.length gv.acc
        rw [List.length_map, gv.len, Array.length_toList] at e1
        exact e1
      refine wpAny_bind (wpAny_updateSeq hS' rfl (wpAny_pure ⟨plainId_quiet F.plain_extend_loop _, ?_⟩) (by omega) (by rw [Array.size_push]; omega))
      have gv' := gv.next (h' := h') rfl hlo hsz hx hy hp hkp
      refine ih (i + 1) (h'.update S (Obj.mapSeq fun q => q.push (.ref h.objs.size))) (acc.push (.ref h.objs.size)) _ (as ++ [h.objs.size]) (by omega) (by omega) (st'.upd o hS' rfl) (Heap.get?_update_self (Obj.mapSeq fun q => q.push (.ref h.objs.size)) hS' rfl) ?_ (gv'.upd hS' rfl) fun h2 acc2 c2 as2 e1 e2 e3 => ?_
      · rw [Heap.size_update, hsz]
        exact Nat.lt_succ_of_lt hlo
      · exact hR h2 acc2 c2 as2 (fun b ob b1 b2 b3 b4 b5 e => e1 b ob b1 b2 b3 b4 b5 ((Heap.get?_update_other h' _ (Ne.symm b1)).trans (hk' b ob b2 b3 b4 b5 e))) e2 e3
    by_cases h0 : i = 0
    · obtain ⟨a, b, hz1, hto⟩ := st.first h0
      have has : as = [] := List.eq_nil_of_length_eq_zero (gv.len.trans h0)
      refine wpAny_pyNext_zip_item D hz1 st.ti hto st.it1 st.it2 st.li1 st.li2 hx hy fun h' a1 a2 a3 a4 a5 a6 a7 => step h' ⟨fun e => absurd e (Nat.succ_ne_zero _), fun _ => ⟨h.objs.size, false, x, y, a1, a5⟩, a7 TI _ D.TIz D.TITO D.TIi1 D.TIi2 st.ti, a3, a4, ?_, ?_⟩ a5 a6 a7 fun a ha => by rw [has] at ha; cases ha
      · obtain ⟨q, h1, h2⟩ := st.li1
        exact ⟨q, a7 l1 q D.l1z D.l1TO D.l1i1 D.l1i2 h1, h2⟩
      · obtain ⟨q, h1, h2⟩ := st.li2
        exact ⟨q, a7 l2 q D.l2z D.l2TO D.l2i1 D.l2i2 h1, h2⟩
    · obtain ⟨T, f, tx, ty, hz1, hT⟩ := st.later (by omega)
      have kp : ∀ (h' : Heap), (∀ b ob, b ≠ z → b ≠ i1 → b ≠ i2 → h.get? b = some ob → h'.get? b = some ob) → ∀ a x y, IsPair h a x y → IsPair h' a x y := fun h' a7 a x y hp => by
        refine a7 a _ (fun e => ?_) (fun e => ?_) (fun e => ?_) hp
        · subst e
          have q : h.get? a = some _ := hp
          rw [show h.get? a = some _ from hz1] at q
          injection q with q
          injection q with q
          exact absurd q (by decide)
        · subst e
          obtain ⟨ob, q1, q2, _⟩ := st.it1
          rw [show h.get? a = some _ from hp] at q1
          cases q1
          exact absurd (show Value.type "tuple" = Value.type "list_iterator" from q2) (by decide)
        · subst e
          obtain ⟨ob, q1, q2, _⟩ := st.it2
          rw [show h.get? a = some _ from hp] at q1
          cases q1
          exact absurd (show Value.type "tuple" = Value.type "list_iterator" from q2) (by decide)
      refine wpAny_pyNext_zip_item_held D hz1 hT st.ti st.it1 st.it2 st.li1 st.li2 hx hy fun h' a1 a3 a4 a5 a6 a7 => step h' ⟨fun e => absurd e (Nat.succ_ne_zero _), fun _ => ⟨T, true, tx, ty, a1, kp h' a7 T tx ty hT⟩, a7 TI _ D.TIz D.TIi1 D.TIi2 st.ti, a3, a4, ?_, ?_⟩ a5 a6 (fun b ob b1 b2 b3 b4 e => a7 b ob b1 b3 b4 e) fun a ha x y hp => kp h' a7 a x y hp
      · obtain ⟨q, h1, h2⟩ := st.li1
        exact ⟨q, a7 l1 q D.l1z D.l1i1 D.l1i2 h1, h2⟩
      · obtain ⟨q, h1, h2⟩ := st.li2
        exact ⟨q, a7 l2 q D.l2z D.l2i1 D.l2i2 h1, h2⟩
theorem list_init_zip (hh : A.in1.handled = none) (D : ZipApart z TI TO i1 i2 l1 l2) (o : ZOff S z TI TO i1 i2 l1 l2) {n : Nat} (hn : n = min xs.size ys.size) (hz : n + 1 ≤ sizeLine) {g : Array GenState} {d : _} {tk : Nat} {os : _} {R : Result → Shared → Prop}
    (st : ZSt h z TI TO i1 i2 l1 l2 xs ys 0) (hS : h.get? S = some { cls := .type "list", data := .seq #[] }) (hlo : lo < h.objs.size)
    (hR : ∀ (h' : Heap) (acc' : Array Value) (c' : Nat) (as' : List Addr), (∀ b ob, b ≠ S → b ≠ z → b ≠ TO → b ≠ i1 → b ≠ i2 → h.get? b = some ob → h'.get? b = some ob) → h'.get? S = some { cls := .type "list", data := .seq acc' c' } → ZGiven h' lo acc' xs ys n as' → R (.ok (.ret .none)) ⟨h', g, d, tk, os⟩) :
    wpAny (model prog w) A.in1 (Builtin.«list.__init__» ⟨[.ref S, .ref z], []⟩) (fun fin s' => match fin with
      | Fin.done f => R (Except.ok f) s'
      | Fin.again c' => c'.quiet = true ∧ codeAny (model prog w) A c' R s') (fun e s' => R (Except.error e) s') ⟨h, g, d, tk, os⟩ := by
  refine wpAny_bind ?_
  unfold Builtin.List.listItems
  refine wpAny_bind (wpAny_seqItems hS rfl (wpAny_pure ?_))
  refine wpAny_bind (wpAny_updateSeq hS rfl ?_)
  refine wpAny_bind (wpAny_letGo ?_)
  obtain ⟨a0, b0, hz0, hto0⟩ := st.first rfl
  have hS1 := Heap.get?_update_self (h := h) (Obj.mapSeq fun _ => #[]) hS rfl
  have st1 := st.upd (f := Obj.mapSeq fun _ => #[]) o hS rfl
  have sz1 : (h.update S (Obj.mapSeq fun _ => #[])).objs.size = h.objs.size := Heap.size_update _ _ _
  have off1 : ∀ b ob, b ≠ S → h.get? b = some ob → (h.update S (Obj.mapSeq fun _ => #[])).get? b = some ob := fun b ob hb e => (Heap.get?_update_other h _ (Ne.symm hb)).trans e
  generalize h.update S (Obj.mapSeq fun _ => #[]) = h1 at hS1 st1 sz1 off1 ⊢
  have hz1 : h1.get? z = some _ := off1 z _ (Ne.symm o.z) hz0
  have hT : ∀ (h2 : Heap) (g2 : _) , h2.get? z = some { cls := Value.type "zip", data := Data.fields #[Value.none, Value.bool false, Value.bool false, Value.ref TI, Value.ref TO] } → (Shared.mk h2 g2 d tk os).TypeIs (.ref z) "zip" := fun h2 g2 e => ⟨_, e, rfl⟩
  refine wpAny_bind (wpAny_typeOf (hT h1 g hz1) ?_)
  have e1 : (Builtin.List.listSameRef (Value.ref S) (Value.ref z) || Value.type "zip" == Value.type "list" || Value.type "zip" == Value.type "tuple") = false := by
    have : Builtin.List.listSameRef (Value.ref S) (Value.ref z) = false := beq_eq_false_iff_ne.mpr o.z
    rw [this]
    rfl
  rw [e1, if_neg (by decide)]
  refine wpAny_bind (wpAny_pyIter_zip hz1 ?_)
  refine wpAny_bind (wpAny_holding ?_)
  refine wpAny_bind (wpAny_specialOf (hT h1 g hz1) zip_no_len ?_)
  refine wpAny_bind (wpAny_specialOf (hT h1 g hz1) zip_no_hint (wpAny_pure ?_))
  rw [if_pos (by rfl)]
  refine wpAny_bind (wpAny_rule ?_)
  refine wpAny_bind ?_
  unfold Builtin.List.listTouch
  refine wpAny_bind (wpAny_updateSeq hS1 rfl ?_)
  have hS2 := Heap.get?_update_self (h := h1) (Obj.mapSeq fun q => q.push Value.none) hS1 rfl
  have st2 := st1.upd (f := Obj.mapSeq fun q => q.push Value.none) o hS1 rfl
  have sz2 : (h1.update S (Obj.mapSeq fun q => q.push Value.none)).objs.size = h1.objs.size := Heap.size_update _ _ _
  have off2 : ∀ b ob, b ≠ S → h1.get? b = some ob → (h1.update S (Obj.mapSeq fun q => q.push Value.none)).get? b = some ob := fun b ob hb e => (Heap.get?_update_other h1 _ (Ne.symm hb)).trans e
  generalize h1.update S (Obj.mapSeq fun q => q.push Value.none) = h2 at hS2 st2 sz2 off2 ⊢
  refine wpAny_updateSeq hS2 rfl ?_
  have hS3 := Heap.get?_update_self (h := h2) (Obj.mapSeq fun q => q.pop) hS2 rfl
  have st3 := st2.upd (f := Obj.mapSeq fun q => q.pop) o hS2 rfl
  have sz3 : (h2.update S (Obj.mapSeq fun q => q.pop)).objs.size = h2.objs.size := Heap.size_update _ _ _
  have off3 : ∀ b ob, b ≠ S → h2.get? b = some ob → (h2.update S (Obj.mapSeq fun q => q.pop)).get? b = some ob := fun b ob hb e => (Heap.get?_update_other h2 _ (Ne.symm hb)).trans e
  refine wpAny_pure ⟨plainId_quiet F.plain_extend_loop _, ?_⟩
  refine zip_loop (lo := lo) hh D o .none hn hz n 0 (h2.update S (Obj.mapSeq fun q => q.pop)) #[] _ [] (Nat.sub_zero n) (Nat.zero_le n) st3 hS3 (by rw [sz3, sz2, sz1]; exact hlo) ⟨rfl, rfl, .nil, (fun _ h => nomatch h), (fun _ h => nomatch h), (fun _ _ h => by cases h)⟩ fun h' acc' c' as' k1 k2 k3 => ?_
  exact hR h' acc' c' as' (fun b ob b1 b2 b3 b4 b5 e => k1 b ob b1 b2 b3 b4 b5 (off3 b ob b1 (off2 b ob b1 (off1 b ob b1 e)))) k2 k3
/-- list(z), z a zip of two lists as it was made -/
theorem call_list_zip {E : Value → Shared → Prop} {Q : Value → Shared → Prop} (hh : A.in1.in1.handled = none) (D : ZipApart z TI TO i1 i2 l1 l2) {n : Nat} (hn : n = min xs.size ys.size) (hz : n + 1 ≤ sizeLine) {s : Shared} (st : ZSt s.heap z TI TO i1 i2 l1 l2 xs ys 0)
    (hQ : ∀ (h' : Heap) (acc' : Array Value) (c' : Nat) (as' : List Addr), (∀ b ob, b ≠ z → b ≠ TO → b ≠ i1 → b ≠ i2 → s.heap.get? b = some ob → h'.get? b = some ob) → h'.get? s.heap.objs.size = some { cls := .type "list", data := .seq acc' c' } → ZGiven h' s.heap.objs.size acc' xs ys n as' → Q (.ref s.heap.objs.size) { s with heap := h' }) :
    wpAny (model prog w) A (call (.type "list") [.ref z]) Q E s := by
  obtain ⟨h, g, d, tk, os⟩ := s
  obtain ⟨a0, b0, hz0, hto0⟩ := st.first rfl
  refine callType_codes F.called_list (F.typeCall_list_1 _) F.entry_list_init (code_list_new (.ref z) (Q₁ := fun v s' => v = .ref h.objs.size ∧ s' = ⟨h.push { cls := .type "list", data := .seq #[] }, g, d, tk, os⟩) ⟨rfl, rfl⟩) fun obj s₁ h₁ => ?_
  obtain ⟨rfl, rfl⟩ := h₁
  have hS := Heap.get?_push_size h (o := { cls := .type "list", data := .seq #[] }) rfl
  have kp : ∀ b ob, h.get? b = some ob → (h.push { cls := Value.type "list", data := Data.seq #[] }).get? b = some ob := fun b ob e => Heap.get?_push_of_some _ e
  have lt : ∀ {b : Addr} {ob : Obj}, h.get? b = some ob → h.objs.size ≠ b := fun e => Nat.ne_of_gt (Heap.lt_size e)
  have o : ZOff h.objs.size z TI TO i1 i2 l1 l2 := ⟨lt hz0, lt st.ti, lt hto0, (by obtain ⟨_, q, _⟩ := st.it1; exact lt q), (by obtain ⟨_, q, _⟩ := st.it2; exact lt q), (by obtain ⟨_, q, _⟩ := st.li1; exact lt q), (by obtain ⟨_, q, _⟩ := st.li2; exact lt q)⟩
  have st' : ZSt (h.push { cls := Value.type "list", data := Data.seq #[] }) z TI TO i1 i2 l1 l2 xs ys 0 := ⟨fun _ => ⟨a0, b0, kp _ _ hz0, kp _ _ hto0⟩, fun e => absurd e (Nat.lt_irrefl _), kp _ _ st.ti, (by obtain ⟨q, q1, q2⟩ := st.it1; exact ⟨q, kp _ _ q1, q2⟩), (by obtain ⟨q, q1, q2⟩ := st.it2; exact ⟨q, kp _ _ q1, q2⟩), (by obtain ⟨q, q1, q2⟩ := st.li1; exact ⟨q, kp _ _ q1, q2⟩), (by obtain ⟨q, q1, q2⟩ := st.li2; exact ⟨q, kp _ _ q1, q2⟩)⟩
  refine ⟨⟨_, hS, rfl⟩, F.args_list_init_2 _ _, list_init_zip (lo := h.objs.size) hh D o hn hz st' hS (by rw [Heap.size_push]; exact Nat.lt_succ_self _) fun h' acc' c' as' k1 k2 k3 => ⟨rfl, ?_⟩⟩
  exact hQ h' acc' c' as' (fun b ob b2 b3 b4 b5 e => k1 b ob (Ne.symm (lt e)) b2 b3 b4 b5 (kp b ob e)) k2 k3
end
end PySem

set_option Elab.async false
set_option maxRecDepth 100000
set_option maxHeartbeats 4000000
/-! tuple(range(a, b, c)), list(range(a, b, c)), list(zip(x, y)) as expressions -/
namespace L2
open PySem PySem.Spec PyProof.Rows
section
variable {X : Cx}
theorem vals3 {x y z : V} {us : List Value} (r : Vals [x, y, z] us) : ∃ u v w, us = [u, v, w] ∧ RelV x u ∧ RelV y v ∧ RelV z w := by
  cases r with
  | cons h1 r =>
    obtain ⟨v, w, rfl, h2, h3⟩ := vals2 r
    exact ⟨_, v, w, rfl, h1, h2, h3⟩
theorem pylong_no {x c : Int} (h : c.natAbs < 1073741824) : Builtin.divisionGoesByPylong x c = false := by
  unfold Builtin.divisionGoesByPylong
  have hd : ¬ (if (c == 0) = true then 0 else c.natAbs.log2 / 30 + 1) > 300 := by
    split
    · omega
    · rename_i h0
      have hc : c.natAbs ≠ 0 := fun e => h0 (by rw [Int.natAbs_eq_zero.mp e]; rfl)
      have : c.natAbs.log2 < 30 := (Nat.log2_lt hc).mpr (by simpa using h)
      omega
  dsimp only
  rw [decide_eq_false hd]
  rfl
theorem prg_3 {e : Expr} {es : List Expr} {ta : TA} {p pos : Pos} (hg : Gl X "range") (hm : X.mg "range" = none) (ha : PA X (e :: es) ta) (he : starEach (e :: es) X.env = (false, eval e X.env) :: starEach es X.env := by rfl) (hpl : (backTo pos (starEach es X.env)).any (·.1) = false := by rfl) :
    PRg3 X (.Call (.Name "range" p) (e :: es) [] pos) (tRg3 ta) := by
  intro pins s σ H Q I h
  refine PyProof.Rows.Call_ (ld_blt I hg hm (u := .type "range") (by rfl) (PyProof.Rows.callWith_type1 (thn (ha.run pos pins s σ H _ I h) fun us s1 ⟨vs, H1, I1, r1, q1⟩ => ?_) he hpl)) rfl
  obtain ⟨a, b, c, rfl, hc, ⟨h1, h2, h3, h4, h5⟩, q⟩ := q1
  obtain ⟨u, v, w, rfl, ⟨t1, rfl⟩, ⟨t2, rfl⟩, ⟨t3, rfl⟩⟩ := vals3 r1
  refine call_range_3 hc ⟨s1.heap.objs.size, a, b, c, t1, t2, t3, H1, rfl, Heap.get?_push_size _ rfl, ?_, q⟩ (.inl (pylong_no h5))
  exact I1.kept (t' := s1.toks) fun b o e => Heap.get?_push_of_some _ e
def rgC (a c : Int) (n : Nat) : List V := (List.range n).map fun (i : Nat) => .int (a + (i : Int) * c)
theorem vals_rgC {a c : Int} {n : Nat} {acc : Array Value} (h : ItemsOf (fun i v => ∃ t, v = Value.int (a + (i : Int) * c) t) acc n) : Vals (rgC a c n) acc.toList := by
  refine vals_of_at ?_ fun j x u hx hu => ?_
  · show (rgC a c n).length = acc.toList.length
    rw [show acc.toList.length = acc.size from rfl, h.1]
    simp [rgC]
  · have hj : j < n := by
      have := (List.getElem?_eq_some_iff.mp hx).1
      simpa [rgC] using this
    obtain ⟨t, rfl⟩ := h.2 j u (by rw [← Array.getElem?_toList]; exact hu)
    unfold rgC at hx
    rw [List.getElem?_map, List.getElem?_range hj] at hx
    cases hx
    exact ⟨t, rfl⟩
def tTupRg3 (te : St → Hp → (Int → Int → Int → Hp → Prop) → Prop) : TE := fun σ H Q => te σ H fun a b c H1 => ∃ n, RgC a b c n ∧ n ≤ 2 ^ 24 ∧ ∀ q, H1 q = none → Q (.ref q) (upd H1 q (.tup (rgC a c n)))
def tLstRg3 (te : St → Hp → (Int → Int → Int → Hp → Prop) → Prop) : TE := fun σ H Q => te σ H fun a b c H1 => ∃ n, RgC a b c n ∧ n ≤ 2 ^ 24 ∧ ∀ q, H1 q = none → Q (.ref q) (upd H1 q (.lst (rgC a c n)))
theorem pe_tupRg3 {e : Expr} {te : St → Hp → (Int → Int → Int → Hp → Prop) → Prop} {p pos : Pos} (hc : X.calm = true) (hg : Gl X "tuple") (hm : X.mg "tuple" = none) (he : PRg3 X e te) (hs : starEach [e] X.env = (false, eval e X.env) :: starEach [] X.env := by rfl) :
    PE X (.Call (.Name "tuple" p) [e] [] pos) (tTupRg3 te) := by
  refine ⟨fun pins s σ H Q I h => ?_⟩
  refine PyProof.Rows.Call_ (ld_blt I hg hm (u := .type "tuple") (by rfl) (PyProof.Rows.callWith_type1 ?_ hs rfl)) rfl
  rw [hs]
  refine Calls.spliced_cons (thn (he pins s σ H _ I h) fun x s1 ⟨r, a, b, c, t, u, v, H1, ex, hr, I1, n, hn, hz, q⟩ => Calls.spliced_nil ?_)
  subst ex
  obtain ⟨_, _, h3, h4⟩ := hn
  refine call_tuple_range (I1.ok.hd hc) hr h3 h4 hz fun h' tk acc hk hacc => ?_
  have I2 := I1.kept (t' := tk) hk
  have hzl : (rgC a c n).length ≤ sizeLine := by
    rw [show (rgC a c n).length = n by simp [rgC]]
    exact Nat.le_trans hz (by decide)
  refine ⟨.ref h'.objs.size, upd H1 h'.objs.size (.tup (rgC a c n)), I2.laid (t' := tk) (fun b o e => Heap.get?_push_of_some _ e) (Nat.le_refl _) ⟨hzl, acc.toList, vals_rgC hacc, ⟨_, Heap.get?_push_size _ rfl, rfl, _, rfl⟩⟩, rfl, q _ (I2.hok.fresh (Nat.le_refl _))⟩
theorem pe_listRg3 {e : Expr} {te : St → Hp → (Int → Int → Int → Hp → Prop) → Prop} {p pos : Pos} (hc : X.calm = true) (hg : Gl X "list") (hm : X.mg "list" = none) (he : PRg3 X e te) (hs : starEach [e] X.env = (false, eval e X.env) :: starEach [] X.env := by rfl) :
    PE X (.Call (.Name "list" p) [e] [] pos) (tLstRg3 te) := by
  refine ⟨fun pins s σ H Q I h => ?_⟩
  refine PyProof.Rows.Call_ (ld_blt I hg hm (u := .type "list") (by rfl) (PyProof.Rows.callWith_type1 ?_ hs rfl)) rfl
  rw [hs]
  refine Calls.spliced_cons (thn (he pins s σ H _ I h) fun x s1 ⟨r, a, b, c, t, u, v, H1, ex, hr, I1, n, hn, hz, q⟩ => Calls.spliced_nil ?_)
  subst ex
  obtain ⟨_, _, h3, h4⟩ := hn
  refine call_list_range (I1.ok.hd hc) hr h3 h4 hz fun h' tk acc c' hk hS hacc => ?_
  have hzl : (rgC a c n).length ≤ sizeLine := by
    rw [show (rgC a c n).length = n by simp [rgC]]
    exact Nat.le_trans hz (by decide)
  refine ⟨.ref s1.heap.objs.size, upd H1 s1.heap.objs.size (.lst (rgC a c n)), I1.laid (t' := tk) hk (Nat.le_refl _) ⟨hzl, acc.toList, c', vals_rgC hacc, hS⟩, rfl, q _ (I1.hok.fresh (Nat.le_refl _))⟩
/-! list(zip(x, y)), two lists of ints -/
theorem zipApart {n la lb : Nat} (h1 : la < n) (h2 : lb < n) : ZipApart (n + 4) (n + 2) (n + 3) n (n + 1) la lb where
  TIz := show (n + 2 : Nat) ≠ n + 4 by omega
  TOz := show (n + 3 : Nat) ≠ n + 4 by omega
  i1z := show (n : Nat) ≠ n + 4 by omega
  i2z := show (n + 1 : Nat) ≠ n + 4 by omega
  TITO := show (n + 2 : Nat) ≠ n + 3 by omega
  TIi1 := show (n + 2 : Nat) ≠ n by omega
  TIi2 := show (n + 2 : Nat) ≠ n + 1 by omega
  TOi1 := show (n + 3 : Nat) ≠ n by omega
  TOi2 := show (n + 3 : Nat) ≠ n + 1 by omega
  i12 := show (n : Nat) ≠ n + 1 by omega
  l1z := show (la : Nat) ≠ n + 4 by omega
  l1TO := show (la : Nat) ≠ n + 3 by omega
  l1i1 := show (la : Nat) ≠ n by omega
  l1i2 := show (la : Nat) ≠ n + 1 by omega
  l2z := show (lb : Nat) ≠ n + 4 by omega
  l2TO := show (lb : Nat) ≠ n + 3 by omega
  l2i1 := show (lb : Nat) ≠ n by omega
  l2i2 := show (lb : Nat) ≠ n + 1 by omega
theorem lt_off {n b : Nat} (h : b < n) : b ≠ n + 4 ∧ b ≠ n + 3 ∧ b ≠ n ∧ b ≠ n + 1 := ⟨by omega, by omega, by omega, by omega⟩
/-- the same heap with k places more, all of them free -/
theorem padded (h : Heap) : ∀ k : Nat, ∃ h2 : Heap, h2.objs.size = h.objs.size + k ∧ (∀ b o, h.get? b = some o → h2.get? b = some o) ∧ ∀ b o, h2.get? b = some o → h.get? b = some o
  | 0 => ⟨h, rfl, fun _ _ e => e, fun _ _ e => e⟩
  | k + 1 => by
    obtain ⟨h2, e1, e2, e3⟩ := padded h k
    refine ⟨h2.push { cls := .none, data := .freed }, by rw [Heap.size_push, e1]; rfl, fun b o e => Heap.get?_push_of_some _ (e2 b o e), fun b o e => e3 b o ?_⟩
    obtain ⟨objs, life⟩ := h2
    unfold Heap.push Heap.get? at e
    dsimp only at e
    rw [Array.getElem?_push] at e
    by_cases hb : b = objs.size
    · rw [if_pos hb] at e
      cases e
    · rw [if_neg hb] at e
      exact e
theorem paired_at {α β : Type} {R : α → β → Prop} : ∀ {as : List α} {qs : List β} {j : Nat} {t : α}, Paired R as qs → as[j]? = some t → ∃ q, qs[j]? = some q ∧ R t q
  | _ :: _, _ :: _, 0, _, .cons h _, e => by
    cases e
    exact ⟨_, rfl, h⟩
  | _ :: _, _ :: _, j + 1, _, .cons _ h, e => by
    obtain ⟨q, h1, h2⟩ := paired_at (j := j) h (by simpa using e)
    exact ⟨q, by simpa using h1, h2⟩
theorem kv_zip : ∀ (xs : List Int) (ys : List Int) (us : List Value), Vals (ys.map V.int) us → KV ((xs.zip ys).map fun p => ((Sum.inl p.1 : Key), V.int p.2)) ((xs.zip us).map fun p => ((Sum.inl p.1 : Key), p.2))
  | [], _, _, _ => .nil
  | _ :: _, [], [], _ => .nil
  | x :: xs, y :: ys, u :: us, .cons h1 h2 => .cons ⟨rfl, h1⟩ (kv_zip xs ys us h2)
def tLstZip (K : PySem.W.Frag) (t : TA) : TE := fun σ H Q => t σ H fun vs H1 => ∃ (la lb : Addr) (xs ys : List Int), vs = [.ref la, .ref lb] ∧ SqL K H1 la (xs.map V.int) ∧ SqL K H1 lb (ys.map V.int) ∧ xs.length = ys.length ∧ xs.length ≤ 1000000 ∧
  ∀ (D : Addr) (as : List Addr) (H2 : Hp), Ext H1 H2 → H2 D = some (.lst (as.map V.ref)) → as.length = xs.length → (∀ (j : Nat) (t : Addr), as[j]? = some t → ∃ x y, xs[j]? = some x ∧ ys[j]? = some y ∧ H2 t = some (.tup [.int x, .int y])) → Q (.ref D) H2
theorem pe_listZip {a : Expr} {es : List Expr} {ta : TA} {p pz zpos pos : Pos} (hc : X.calm = true) (hg : Gl X "list") (hm : X.mg "list" = none) (hg2 : Gl X "zip") (hm2 : X.mg "zip" = none) (ha : PA X (a :: es) ta)
    (hs : starEach [.Call (.Name "zip" pz) (a :: es) [] zpos] X.env = (false, eval (.Call (.Name "zip" pz) (a :: es) [] zpos) X.env) :: starEach [] X.env := by rfl) (he : starEach (a :: es) X.env = (false, eval a X.env) :: starEach es X.env := by rfl) (hpl : (backTo zpos (starEach es X.env)).any (·.1) = false := by rfl) :
    PE X (.Call (.Name "list" p) [.Call (.Name "zip" pz) (a :: es) [] zpos] [] pos) (tLstZip X.K ta) := by
  refine ⟨fun pins s σ H Q I h => ?_⟩
  refine PyProof.Rows.Call_ (ld_blt I hg hm (u := .type "list") (by rfl) (PyProof.Rows.callWith_type1 ?_ hs rfl)) rfl
  rw [hs]
  refine Calls.spliced_cons (PyProof.Rows.Call_ (ld_blt I hg2 hm2 (u := .type "zip") (by rfl) (PyProof.Rows.callWith_type1 (thn (ha.run zpos pins s σ H _ I h) fun us s1 ⟨vs, H1, I1, r1, q1⟩ => ?_) he hpl)) rfl)
  obtain ⟨la, lb, xs, ys, rfl, hxs, hys, hll, hz, q⟩ := q1
  obtain ⟨u1, u2, rfl, r1a, r1b⟩ := vals2 r1
  obtain rfl : u1 = Value.ref la := r1a
  obtain rfl : u2 = Value.ref lb := r1b
  obtain ⟨its1, rv1, pl1, _⟩ := I1.list hxs
  obtain ⟨its2, rv2, pl2, _⟩ := I1.list hys
  have hl1 : its1.length = xs.length := by rw [← rv1.length, List.length_map]
  have hl2 : its2.length = ys.length := by rw [← rv2.length, List.length_map]
  have lt1 : la < s1.heap.objs.size := by obtain ⟨o, _, e, _⟩ := pl1; exact Heap.lt_size e
  have lt2 : lb < s1.heap.objs.size := by obtain ⟨o, _, e, _⟩ := pl2; exact Heap.lt_size e
  refine call_zip_2 pl1.isList pl2.isList fun h2 z1 z2 z3 z4 z5 z6 z7 => Calls.spliced_nil ?_
  have I2 := I1.kept (t' := s1.toks) z7
  have D : ZipApart (s1.heap.objs.size + 4) (s1.heap.objs.size + 2) (s1.heap.objs.size + 3) s1.heap.objs.size (s1.heap.objs.size + 1) la lb := zipApart lt1 lt2
  have st : ZSt h2 (s1.heap.objs.size + 4) (s1.heap.objs.size + 2) (s1.heap.objs.size + 3) s1.heap.objs.size (s1.heap.objs.size + 1) la lb its1.toArray its2.toArray 0 := ⟨fun _ => ⟨_, _, z1, z3⟩, fun e => absurd e (Nat.lt_irrefl _), z2, z4, z5, (by obtain ⟨o, q1, q2⟩ := pl1.isList; exact ⟨o, z7 _ _ q1, q2⟩), (by obtain ⟨o, q1, q2⟩ := pl2.isList; exact ⟨o, z7 _ _ q1, q2⟩)⟩
  refine call_list_zip (n := xs.length) (s := { s1 with heap := h2 }) (I2.ok.hd hc) D (by simp; omega) (Nat.le_trans (Nat.succ_le_succ hz) (by decide)) st fun h3 acc c as k1 k2 k3 => ?_
  obtain ⟨hp, p1, p2, p3⟩ := padded s1.heap 5
  have I3 := I1.kept (h' := hp) (t' := s1.toks) p2
  have hk : ∀ b ob, hp.get? b = some ob → h3.get? b = some ob := fun b ob e => by
    have e1 := p3 b ob e
    obtain ⟨n1, n2, n3, n4⟩ := lt_off (Heap.lt_size e1)
    exact k1 b ob n1 n2 n3 n4 (z7 b ob e1)
  have hsz : hp.objs.size = h2.objs.size := by rw [p1, z6]
  have hG : W.KdxG (mixKind X.prog X.w) ((xs.zip its2).map fun p => ((Sum.inl p.1 : Key), p.2)) hp.objs.size h3 as := by
    rw [hsz]
    refine ⟨k3.rise, k3.above, fun j a hj => ?_⟩
    obtain ⟨x, y, hx, hy, hpair⟩ := k3.pairs j a hj
    have hx' : its1[j]? = some x := by simpa using hx
    have hy' : its2[j]? = some y := by simpa using hy
    obtain ⟨n, hn⟩ : ∃ n, xs[j]? = some n := ⟨_, List.getElem?_eq_getElem (by have := (List.getElem?_eq_some_iff.mp hx').1; omega)⟩
    obtain ⟨u, hu, ru⟩ := rv1.get (i := j) (x := .int n) (by rw [List.getElem?_map, hn]; rfl)
    rw [hx'] at hu
    cases hu
    obtain ⟨t, rfl⟩ := ru
    refine ⟨_, .inl n, y, ?_, ?_, hpair⟩
    · rw [List.getElem?_map, (List.getElem?_zip_eq_some (z := (n, y))).mpr ⟨hn, hy'⟩]
      rfl
    · show (n == n) = true
      exact beq_self_eq_true n
  have hal : as.length = ((xs.zip its2).map fun p => ((Sum.inl p.1 : Key), p.2)).length := by
    rw [k3.len, List.length_map, List.length_zip]
    omega
  obtain ⟨H3, e1, e2, e3, e4, e5, e6, I4⟩ := LiI.items_laid (kvs := (xs.zip ys).map fun p => ((Sum.inl p.1 : Key), V.int p.2)) (tk := s1.toks) (s := { s1 with heap := hp, toks := s1.toks }) I3 (by rw [List.length_map, List.length_zip]; exact Nat.le_trans (Nat.min_le_left _ _) (Nat.le_trans hz (by decide))) (kv_zip xs ys its2 rv2) hk (by rw [show ({ s1 with heap := hp, toks := s1.toks } : Shared).heap.objs.size = h2.objs.size from hsz]; exact k2) hal hG k3.acc
  refine ⟨.ref h2.objs.size, H3, I4, rfl, q h2.objs.size as H3 e1 ?_ k3.len fun j t hj => ?_⟩
  · rw [← hsz]
    exact e5
  · obtain ⟨q', h1, h2'⟩ := paired_at e6 hj
    rw [List.getElem?_map] at h1
    cases hz' : (xs.zip ys)[j]? with
    | none => rw [hz'] at h1; cases h1
    | some p =>
      rw [hz'] at h1
      cases h1
      obtain ⟨h3', h4'⟩ := List.getElem?_zip_eq_some.mp hz'
      exact ⟨p.1, p.2, h3', h4', h2'⟩
end
end L2

set_option Elab.async false
set_option maxRecDepth 100000
set_option maxHeartbeats 4000000
namespace L2
open PySem PySem.Spec PyProof.Rows
section
variable {X : Cx} {K : PySem.W.Frag}
theorem op_in_seqK (h : X.K = K) : OpR X (compareOp .In) (rIn K false) := by
  subst h
  exact op_in_seq
theorem op_notIn_seqK (h : X.K = K) : OpR X (compareOp .NotIn) (rIn K true) := by
  subst h
  exact op_notIn_seq
theorem inV_ints (a : Int) : ∀ ns : List Int, inV (.int a) (ns.map V.int) = decide (a ∈ ns)
  | [] => rfl
  | n :: ns => by
    have ih := inV_ints a ns
    unfold inV at ih ⊢
    rw [List.map_cons, List.any_cons, ih]
    have e : eqV (.int n) (.int a) = decide (n = a) := rfl
    rw [e, Bool.eq_iff_iff]
    simp
    constructor
    · rintro (e | e)
      · exact .inl e.symm
      · exact .inr e
    · rintro (e | e)
      · exact .inl e.symm
      · exact .inr e
theorem flat_ints {ns : List Int} : (ns.map V.int).all flatV = true := by
  rw [List.all_eq_true]
  intro v hv
  obtain ⟨n, _, rfl⟩ := List.mem_map.mp hv
  rfl
end
end L2

set_option Elab.async false
set_option maxRecDepth 100000
set_option maxHeartbeats 4000000
namespace L2
open PySem PySem.Spec PyProof.Rows
section
variable {X : Cx} {K : PySem.W.Frag} {a : Expr} {ta : TE}
/-- a truth test with K named, for what stands within a comprehension -/
def tTruK (K : PySem.W.Frag) (ta : TE) : TT := fun σ H Q => ta σ H fun x H' => ∃ k, TruV K x H' k ∧ Q k H'
theorem pt_truthK (h : X.K = K) (ha : PE X a ta) (he : ∀ whole, isTrue a X.env whole = (do let v ← whole; standAt a.pos; holding [v] (truthy v))) :
    PT X a (tTruK K ta) := by
  subst h
  exact pt_truth ha he
end
end L2

set_option Elab.async false
set_option maxRecDepth 100000
set_option maxHeartbeats 4000000
/-! for over a list or a tuple, one walk for both; the body only adds to the heap -/
namespace L2
open PySem PySem.Spec PyProof.Rows
section
variable {K : PySem.W.Frag} {a : Addr} {xs : List V}
theorem for_sq {g : TG} {tb : TS} {D : Ends} {σ : St} {H : Hp} (hx : SqL K H a xs ∨ SqT K H a xs) (Pv : Nat → St → Hp → Prop) (h0 : Pv 0 σ H) (hE : ∀ i σ' H', Pv i σ' H' → Ext H H')
    (hs : ∀ i x σ' H', xs[i]? = some x → Pv i σ' H' → g x σ' H' fun σ2 H2 => tb { D with nx := Pv (i + 1), ct := Pv (i + 1), bk := D.nx } σ2 H2) (hd : ∀ σ' H', Pv xs.length σ' H' → D.nx σ' H') :
    ((∃ xs, SqL K H a xs) ∧ turnsOf g tb D σ (Itl K a) H) ∨ ((∃ xs, SqT K H a xs) ∧ turnsOf g tb D σ (Itt K a) H) := by
  have step : ∀ i x σ' H' H'', i < xs.length → Pv i σ' H' → YAt xs i H' x H'' → g x σ' H'' fun σ2 H2 => tb { D with nx := Pv (i + 1), ct := Pv (i + 1), bk := D.nx } σ2 H2 := by
    rintro i x σ' H' H'' _ pv ⟨rfl, hx'⟩
    exact hs i x σ' H'' hx' pv
  rcases hx with hx | hx
  · exact .inl ⟨⟨xs, hx⟩, for_it (walk_list (xs := xs)) Pv h0 (fun i σ' H' _ pv => hx.ext (hE i σ' H' pv)) step hd⟩
  · exact .inr ⟨⟨xs, hx⟩, for_it (walk_tup (xs := xs)) Pv h0 (fun i σ' H' _ pv => hx.ext (hE i σ' H' pv)) step hd⟩
end
end L2

set_option Elab.async false
set_option maxRecDepth 100000
set_option maxHeartbeats 4000000
/-! a tuple whose object is known: its methods may be called -/
namespace L2
open PySem PySem.Spec PyProof.Rows
def FrzT (H : Hp) (a : Addr) (ts : List V) : Prop := ∃ o, H a = some (.frz o (.tup ts)) ∧ o.dict = none
theorem FrzT.sqT {K : PySem.W.Frag} {H : Hp} {a : Addr} {ts : List V} (h : FrzT H a ts) : SqT K H a ts := by
  obtain ⟨o, h, _⟩ := h
  exact .inl (.inr ⟨o, h⟩)
theorem FrzT.ext {H H' : Hp} {a : Addr} {ts : List V} (h : FrzT H a ts) (e : Ext H H') : FrzT H' a ts := by
  obtain ⟨o, h, d⟩ := h
  exact ⟨o, e _ _ h, d⟩
def rTupFrz (K : PySem.W.Frag) : List V → Hp → VK → Prop := fun xs H Q => ∃ p ys, xs = [.ref p] ∧ SqL K H p ys ∧ ∀ l o, H l = none → o.dict = none → Q (.ref l) (upd H l (.frz o (.tup ys)))
section
variable {X : Cx}
theorem call_tuple_frz : CallR X (.type "tuple") (rTupFrz X.K) := by
  intro pins s σ H xs us Q I r h
  obtain ⟨p, ys, rfl, hq, q⟩ := h
  obtain ⟨u, rfl, rx⟩ := vals1 r
  cases rx
  obtain ⟨its, r', pl, hz⟩ := I.list hq
  have hlen := r'.length
  refine call_tuple_list pl.isList (fun h' kp => ?_) (by simp only [List.size_toArray] <;> omega)
  have I1 : Inv X pins σ H { s with heap := h' } := I.kept (t' := s.toks) kp
  have I2 : Inv X pins σ (upd H h'.objs.size (.frz { cls := .type "tuple", data := .seq its.toArray } (.tup ys))) { s with heap := h'.push { cls := .type "tuple", data := .seq its.toArray } } :=
    I1.laid (t' := s.toks) (fun b o e => Heap.get?_push_of_some _ e) (Nat.le_refl _) (show ObjOk X.prog X.w _ _ _ (.frz _ (.tup ys)) from ⟨Heap.get?_push_size _ rfl, hz, its, r', IsTup.new _ _⟩)
  exact ⟨.ref h'.objs.size, _, I2, rfl, q _ _ (I1.hok.fresh (Nat.le_refl _)) rfl⟩
def tTM (r : V → List V → Hp → VK → Prop) (to : TE) (t : TA) : TE := fun σ H Q => to σ H fun x H1 => ∃ a ts, x = .ref a ∧ FrzT H1 a ts ∧ t σ H1 fun xs H2 => r x xs H2 Q
variable {o e : Expr} {es : List Expr} {to : TE} {t : TA} {name : Str} {apos cpos : Pos} {id : String} {r : V → List V → Hp → VK → Prop}
theorem pe_tm (slot : Slot "tuple" name id) (hty : typeOf (.builtin id) = pure (.type "method_descriptor")) (hm : MtR X id r) (ho : PE X o to) (ha : PA X (e :: es) t)
    (hbase : attributeBase o name X.env (eval o X.env) = eval o X.env := by rfl)
    (hfew : ((backTo cpos (starEach (e :: es) X.env)).all (fun x => !x.1) && (backToKw cpos (keywordEach [] X.env)).all (fun x => x.1.isSome)
      && decide ((e :: es).length + ([] : List Keyword).length + (if ([] : List Keyword).isEmpty then 0 else 1) < 30)) = true := by rfl)
    (hline : (apos.endLine == cpos.line) = true := by rfl) (hs : starEach (e :: es) X.env = (false, eval e X.env) :: starEach es X.env := by rfl) (hplain : (backTo cpos (starEach es X.env)).any (·.1) = false := by rfl) :
    PE X (.Call (.Attribute o name apos) (e :: es) [] cpos) (tTM r to t) := by
  refine ⟨fun pins s σ H Q I h => ?_⟩
  refine wpAny_Call_method_late hbase hfew hline rfl (thn (ho.run pins s σ H _ I h) fun v s1 ⟨x, H1, I1, r1, a, ts, ex, hf, q1⟩ => ?_)
  subst ex
  obtain ⟨ob, hf, hd⟩ := hf
  obtain ⟨h0, _, its, _, ⟨ob', h0', hc, _⟩⟩ := I1.hok a _ hf
  rw [h0] at h0'
  cases h0'
  cases (show v = Value.ref a from r1)
  refine ⟨"tuple", id, PySem.F.plainAttrs_tuple, slot, hty, ⟨ob, h0, hc⟩, fun b eb => by cases eb; exact ⟨ob, h0, hd⟩, ?_⟩
  have hA := ha.run cpos pins s1 σ H1 _ I1 q1
  rw [hs] at hA ⊢
  refine Calls.callWith_builtin (by show (false || (backTo cpos (starEach es X.env)).any (·.1)) = false; rw [hplain] <;> rfl) (Calls.evalArgs_plain ?_)
  exact thn hA fun us s2 ⟨vs, H2, I2, r2, q2⟩ => hm pins s2 σ H2 (.ref a) vs (.ref a) us Q I2 rfl r2 q2
end
theorem sl_listK {X : Cx} {K : PySem.W.Frag} (h : X.K = K) : SlR X (rSlL K) := by
  subst h
  exact sl_list
section
variable {K : PySem.W.Frag} {a : Addr} {xs : List V}
/-- for over a list or a tuple that the body leaves, though it writes elsewhere -/
theorem for_sqM {g : TG} {tb : TS} {D : Ends} {σ : St} {H0 H : Hp} (hx : SqL K H0 a xs ∨ SqT K H0 a xs) (Pv : Nat → St → Hp → Prop) (h0 : Pv 0 σ H) (hE : ∀ i σ' H', Pv i σ' H' → Ext H0 H')
    (hs : ∀ i x σ' H', xs[i]? = some x → Pv i σ' H' → g x σ' H' fun σ2 H2 => tb { D with nx := Pv (i + 1), ct := Pv (i + 1), bk := D.nx } σ2 H2) (hd : ∀ σ' H', Pv xs.length σ' H' → D.nx σ' H') :
    ((∃ xs, SqL K H a xs) ∧ turnsOf g tb D σ (Itl K a) H) ∨ ((∃ xs, SqT K H a xs) ∧ turnsOf g tb D σ (Itt K a) H) := by
  have step : ∀ i x σ' H' H'', i < xs.length → Pv i σ' H' → YAt xs i H' x H'' → g x σ' H'' fun σ2 H2 => tb { D with nx := Pv (i + 1), ct := Pv (i + 1), bk := D.nx } σ2 H2 := by
    rintro i x σ' H' H'' _ pv ⟨rfl, hx'⟩
    exact hs i x σ' H'' hx' pv
  have e0 := hE 0 _ _ h0
  rcases hx with hx | hx
  · exact .inl ⟨⟨xs, hx.ext e0⟩, for_it (walk_list (xs := xs)) Pv h0 (fun i σ' H' _ pv => hx.ext (hE i σ' H' pv)) step hd⟩
  · exact .inr ⟨⟨xs, hx.ext e0⟩, for_it (walk_tup (xs := xs)) Pv h0 (fun i σ' H' _ pv => hx.ext (hE i σ' H' pv)) step hd⟩
/-- for i, x in enumerate(e), the body leaving e, though it writes elsewhere -/
theorem for_enSqM {g : TG} {tb : TS} {D : Ends} {σ : St} {H0 H : Hp} (hx : SqL K H0 a xs ∨ SqT K H0 a xs) (Pv : Nat → St → Hp → Prop) (h0 : Pv 0 σ H) (hE : ∀ i σ' H', Pv i σ' H' → Ext H0 H')
    (hs : ∀ i x σ' H' T, xs[i]? = some x → Pv i σ' H' → H' T = none → g (.ref T) σ' (upd H' T (.tup [.int (i : Nat), x])) fun σ2 H2 => tb { D with nx := Pv (i + 1), ct := Pv (i + 1), bk := D.nx } σ2 H2) (hd : ∀ σ' H', Pv xs.length σ' H' → D.nx σ' H') :
    ((∃ xs, SqL K H a xs) ∧ turnsOf g tb D σ (Ite K a) H) ∨ ((∃ xs, SqT K H a xs) ∧ turnsOf g tb D σ (Itet K a) H) := by
  have step : ∀ i x σ' H' H'', i < xs.length → Pv i σ' H' → YPair (fun i => some (V.int (i : Nat))) (fun i => xs[i]?) i H' x H'' → g x σ' H'' fun σ2 H2 => tb { D with nx := Pv (i + 1), ct := Pv (i + 1), bk := D.nx } σ2 H2 := by
    rintro i v σ' H' H'' hi pv ⟨T, x, y, rfl, hT, rfl, hx', hy⟩
    cases hx'
    exact hs i y σ' H' T hy pv hT
  have e0 := hE 0 _ _ h0
  rcases hx with hx | hx
  · exact .inl ⟨⟨xs, hx.ext e0⟩, for_it (walk_enum (xs := xs)) Pv h0 (fun i σ' H' _ pv => hx.ext (hE i σ' H' pv)) step hd⟩
  · exact .inr ⟨⟨xs, hx.ext e0⟩, for_it (walk_enT (xs := xs)) Pv h0 (fun i σ' H' _ pv => hx.ext (hE i σ' H' pv)) step hd⟩
end
end L2

set_option Elab.async false
set_option maxRecDepth 100000
set_option maxHeartbeats 4000000
/-! data beside instances within a tuple -/
namespace L2
open PySem PySem.Spec PyProof.Rows
section
variable {X : Cx}
variable {n : Nat}
/-- two things of data -/
def DDat (K : PySem.W.Frag) : EqvB := fun x y H k => ∃ a b d e, x = .ref a ∧ y = .ref b ∧ (a = b → k = true) ∧ Dp K H x d ∧ Dp K H y e ∧ SeqAt.shaped d = true ∧ SeqAt.shaped e = true ∧ k = PyData.eqv d e
theorem rcB_dat : RcB X n (DDat X.K) := by
  intro A pins s σ H x y u v k sb I rx ry d
  obtain ⟨a, b, d, e, rfl, rfl, _, hd, he, sd, se, rfl⟩ := d
  obtain ⟨as, r1⟩ := Dp.reads I d _ u hd rx
  obtain ⟨bs, r2⟩ := Dp.reads I e _ v he ry
  exact SeqAt.compareEq_shaped r1 r2 sd se sb.room.units ⟨rfl, H, I, Ext.rfl'⟩
theorem eqB_dat : EqB X n (DDat X.K) := rcB_dat.eqB fun x y H k d => by
  obtain ⟨a, b, _, _, h1, h2, h3, _⟩ := d
  exact ⟨a, b, h1, h2, h3⟩
theorem EqB.or {D D' : EqvB} (h : EqB X n D) (h' : EqB X n D') : EqB X n (fun x y H k => D x y H k ∨ D' x y H k) := by
  intro A pins s σ H x y u v k sb I rx ry d
  exact d.elim (fun d => h A pins s σ H x y u v k sb I rx ry d) (fun d => h' A pins s σ H x y u v k sb I rx ry d)
theorem MonB.or {D D' : EqvB} (h : MonB D) (h' : MonB D') : MonB (fun x y H k => D x y H k ∨ D' x y H k) := fun x y H H' k e d => d.imp (h x y H H' k e) (h' x y H H' k e)
theorem mon_dat {K : PySem.W.Frag} : MonB (DDat K) := fun x y H H' k e d => by
  obtain ⟨a, b, d, f, h1, h2, h3, hd, he, h4⟩ := d
  exact ⟨a, b, d, f, h1, h2, h3, dp_ext e _ _ hd, dp_ext e _ _ he, h4⟩
end
end L2

set_option Elab.async false
set_option maxRecDepth 100000
set_option maxHeartbeats 4000000
/-! not in, of an own __contains__ -/
namespace L2
open PySem PySem.Spec PyProof.Rows
section
variable {X : Cx} {CX : CXT} {k : Nat} {f C : Addr} {fd : FuncData} {ps : List Str} {sp : Sp}
def rNinO (C : Addr) (sp : Sp) : R2 := fun x y H Q => ∃ a dx fs, y = .ref a ∧ H a = some (.ins C dx fs) ∧ sp [y, x] H (fun v H' => ∃ b, v = .bl b ∧ Q (.bl (!b)) H') E0
theorem op_ninO (F : FnOk X.prog X.w X.K X.mg X.base CX k f fd ps sp) (hs : PySem.W.findIn X.K (.ref C) "__contains__" = some (some (.ref f))) (hf : PySem.W.isFn X.K (.ref f) = true) (hr : Room k X.A) (hb : Binds X.K fd ps []) (hx : Passes CX X E0) : OpR X (compareOp .NotIn) (rNinO C sp) := by
  intro pins s g J x y v u Q I rx ry hq
  obtain ⟨a, dx, fs, rfl, ha, q⟩ := hq
  cases (show u = Value.ref a from ry)
  obtain ⟨mA, O, _⟩ := ins_get I.hok ha
  obtain ⟨od, O, _⟩ := O.look
  show wpAny (model X.prog X.w) X.A (contains (.ref a) v >>= fun b => pure (.bool (!b))) (EP X pins g Q) X.xe s
  refine wpAny_bind (PySem.W.contains_fn I.kIn O hs hf (wpAny_mono (run_at (vs := [.ref a, x]) F hr rfl hb hx I (.cons rfl (.cons rx .nil)) q) (fun r s' z => ?_) fun _ _ e => e))
  obtain ⟨w', J', I', rv, b, rfl, q'⟩ := z
  cases rv
  exact ⟨b, rfl, wpAny_pure ⟨.bl (!b), J', I', rfl, q'⟩⟩
theorem ninO {m : Nat} (O : OwnM X.prog X.w X.K X.mg X.base CX C "__contains__" m ps sp) (hr : Room m X.A) (hx : Passes CX X E0) : OpR X (compareOp .NotIn) (rNinO C sp) := by
  obtain ⟨f, fd, F, M, hi, hb⟩ := O.ex
  exact op_ninO F M.at_ hi hr hb hx
end
end L2

set_option Elab.async false
set_option maxRecDepth 100000
set_option maxHeartbeats 4000000
/-! xs.count(y), over data -/
namespace L2
open PySem PySem.Spec PyProof.Rows
section
variable {X : Cx}
def rCntD (K : PySem.W.Frag) : V → List V → Hp → VK → Prop := fun x xs H Q => ∃ (a : Addr) (y : V) (d : PyData) (ds : List PyData), x = V.ref a ∧ xs = [y] ∧ Dp K H (V.ref a) (.list ds) ∧ Dp K H y d ∧ PyData.plainAll ds = true ∧ d.plain = true ∧ PyData.depthAll ds ≤ 60 ∧ Q (.int ((ds.countP fun z => PyData.eqv z d : Nat) : Int)) H
theorem mt_countD (hu : X.A.units + 64 < cLine) : MtR X "list.count" (rCntD X.K) := by
  intro pins s σ H x xs v us Q I rx rxs h
  obtain ⟨a, y, d, ds, rfl, rfl, hl, hy, sl, sd, hdp, q⟩ := h
  cases rx
  obtain ⟨u, rfl, ru⟩ := rxs.one
  obtain ⟨bs, r1⟩ := Dp.reads I d y u hy ru
  cases hl with
  | lst hs ha =>
    obtain ⟨its, rv, pl, _⟩ := I.list hs
    obtain ⟨as, h4⟩ := Dp.readsAll I ds _ its ha rv
    exact SeqAt.count_list_data pl.isList (by simpa using h4) r1 sl sd (by have := Nat.min_le_left (PyData.depthAll ds) d.depth; omega) ⟨.int _, H, I.tok _, ⟨_, rfl⟩, q⟩
end
end L2

set_option Elab.async false
set_option linter.all false
set_option maxRecDepth 100000
set_option maxHeartbeats 4000000
/-! a generator's for and if -/
namespace L2
open PySem PySem.Spec PyProof.Rows GenW
section
variable {M : Model} {A : Around} {R : GenEnd} {Y : Protocol} {n : Nat} {s₀ s : Shared} {c : Code} {fs : List Frame} {env : Env} {K : Flow → Sem PySem.Fin} {J : Value → Sem PySem.Fin} {gd : Bool → Bool} {lv : List Value → List Value}
/-- the row that an error leaves in a loop's code -/
abbrev marked (env : Env) (e : Value) : Sem PySem.Fin := (do noteFrame e env; theTreesLotGoes e : Sem Unit).bind fun _ => .raise e
/-- what a loop's body goes on to -/
abbrev onward (l : Code) : Flow → Sem PySem.Fin := fun f => match f with
  | .next | .cont => .pure (.again l)
  | .brk => .pure (.done .next)
  | .ret v => .pure (.done (.ret v))
theorem gseg_if {test : Expr} {body orelse : List Stmt} {pos : Pos}
    (h : wpAny M (A.over c fs) (isTrue test env (eval test env)) (fun b s' => Seg M A R Y n s₀ c ((if b = true then execs body env else execs orelse env).wrap K J gd lv) fs s') (fun x s' => Seg M A R Y n s₀ c (J x) fs s') s) :
    Seg M A R Y n s₀ c ((exec (.If test body orelse pos) env).wrap K J gd lv) fs s := by
  rw [exec_If]
  refine seg_bind_wrap (wpAny_standAt ?_)
  refine seg_bind_wrap (wpAny_mono h (fun b s' hb => ?_) fun _ _ hx => hx)
  cases b <;> exact hb
theorem gseg_for {tg iter : Expr} {body : List Stmt} {pos : Pos} (hs : ∀ x, foldedSetIterable iter env x = pure x)
    (h : wpAny M (A.over c fs) (eval iter env) (fun v s1 => wpAny M (A.over c fs) (pyIter v) (fun it s2 => ∀ p, Seg M A R Y n s₀ (.forLoop tg it body [] env) (M.den (.forLoop tg it body [] env))
      (.ret (fun r => ((match r with | .ok f => (.pure f : Sem Flow) | .error e => .raise e).onRaise (cameBack env)).wrap K J gd lv) none (gd false) (lv []) c p [] :: fs) s2) (fun x s' => Seg M A R Y n s₀ c (J x) fs s') s1) (fun x s' => Seg M A R Y n s₀ c (J x) fs s') s) :
    Seg M A R Y n s₀ c ((exec (.For tg iter body [] pos) env).wrap K J gd lv) fs s := by
  rw [exec_For]
  refine seg_bind_wrap (wpAny_standAt ?_)
  refine seg_bind_wrap (wpAny_mono h (fun v s1 h1 => ?_) fun _ _ hx => hx)
  refine seg_bind_wrap (wpAny_of_eq (hs v) ?_)
  refine seg_bind_wrap (wpAny_standAt ?_)
  refine seg_bind_wrap (wpAny_holding (wpAny_mono h1 (fun it s2 h2 => ?_) fun _ _ hx => hx))
  exact seg_call h2
end
section
variable {prog : Program} {w : World} {A : Around} {R : GenEnd} {Y : Protocol} {n : Nat} {s₀ s : Shared} {fs : List Frame} {env : Env}
theorem gseg_turn {tg : Expr} {it : Value} {body : List Stmt}
    (h : wpAny (model prog w) (A.over (.forLoop tg it body [] env) fs) (pyNext it) (fun r s1 => match r with
      | none => Seg (model prog w) A R Y n s₀ (.forLoop tg it body [] env) (.pure (.again (.block [] env))) fs s1
      | some v => wpAny (model prog w) (A.over (.forLoop tg it body [] env) fs) (letOwnedTupleGo tg it v) (fun _ s2 => wpAny (model prog w) (A.over (.forLoop tg it body [] env) fs) (assign tg env v) (fun _ s3 =>
          Seg (model prog w) A R Y n s₀ (.forLoop tg it body [] env) ((execs body env).wrap (onward (.forLoop tg it body [] env)) (marked env) id id) fs s3)
          (fun x s' => Seg (model prog w) A R Y n s₀ (.forLoop tg it body [] env) (marked env x) fs s') s2) (fun x s' => Seg (model prog w) A R Y n s₀ (.forLoop tg it body [] env) (marked env x) fs s') s1)
      (fun x s' => Seg (model prog w) A R Y n s₀ (.forLoop tg it body [] env) (marked env x) fs s') s) :
    Seg (model prog w) A R Y n s₀ (.forLoop tg it body [] env) ((model prog w).den (.forLoop tg it body [] env)) fs s := by
  show Seg _ A R Y n s₀ _ ((forTurn tg it body [] env).onRaise (fun x => do noteFrame x env; theTreesLotGoes x)) fs s
  unfold forTurn
  rw [Sem.onRaise_eq_wrap]
  refine seg_bind_wrap (wpAny_standAt ?_)
  refine seg_bind_wrap (wpAny_onRaise (wpAny_mono h (fun r s1 h1 => ?_) fun _ _ hx => wpAny_standAt hx))
  cases r with
  | none => exact h1
  | some v =>
    refine seg_bind_wrap (wpAny_mono h1 (fun _ s2 h2 => ?_) fun _ _ hx => hx)
    refine seg_bind_wrap (wpAny_mono h2 (fun _ s3 h3 => ?_) fun _ _ hx => hx)
    rw [Sem.bind_eq_wrap', Sem.wrap_wrap]
    rw [Sem.wrap_congr (execs body env) _ _ (K' := onward (.forLoop tg it body [] env)) (H' := marked env) (fun f => by cases f <;> rfl) (fun _ => by rfl)]
    exact h3
end
section
variable {X : Cx} {pos : Pos}
def tGIf (c : TT) (t u : TGn) : TGn := fun D ys σ H => c σ H fun b H1 => if b = true then t D ys σ H1 else u D ys σ H1
theorem gs_if {test : Expr} {body orelse : List Stmt} {tc : TT} {t u : TGn} (hc : PT X test tc) (hb : GSs X body t) (ho : GSs X orelse u) : GS X (.If test body orelse pos) (tGIf tc t u) := by
  refine ⟨fun A S ip R n ys s₀ c fs K J gd lv s σ H D g hn k hI ht => ?_⟩
  refine gseg_if ?_
  rw [g.over]
  obtain ⟨acc, cc, r, I⟩ := hI
  refine wpAny_mono (hc.run _ s σ H _ I ht) (fun b s' hb' => ?_) fun x s' hx => k.exc n s₀ x s' hx
  obtain ⟨H2, I2, q2⟩ := hb'
  cases b with
  | true => exact hb.run A S ip R n ys s₀ c fs K J gd lv s' σ H2 D g hn k ⟨acc, cc, r, I2⟩ q2
  | false => exact ho.run A S ip R n ys s₀ c fs K J gd lv s' σ H2 D g hn k ⟨acc, cc, r, I2⟩ q2
/-- W: what holds at turn i (a measure; what is out; the slots; the heap) -/
def tGFor (wi : TI) (g : TG) (tb : TGn) : TGn := fun D ys σ H => wi σ H fun J H1 => ∃ W : Nat → Nat → List V → St → Hp → Prop, (∃ m, W 0 m ys σ H1) ∧ ∀ i m ys σ H, W i m ys σ H →
  (J.stop i H ∧ D.nx ys σ H) ∨ (J.go i H ∧ ∃ N : List V → St → Hp → Prop, (∀ ys' σ' H', N ys' σ' H' → ∃ m', m' < m ∧ W (i + 1) m' ys' σ' H') ∧ ∀ x H', J.yld i H x H' → g x σ H' fun σ2 H2 => tb { D with nx := N, ct := N, bk := D.nx } ys σ2 H2)
theorem gs_for {tg iter : Expr} {body : List Stmt} {wi : TI} {g : TG} {tb : TGn} (hp : PassesOwn (model X.prog X.w) X.A X.env X.xe) (hc : X.calm = true) (hi : PI X tg iter wi) (hg : PG X tg g) (hb : GSs X body tb)
    (hs : ∀ x, foldedSetIterable iter X.env x = pure x := by intro _; rfl) : GS X (.For tg iter body [] pos) (tGFor wi g tb) := by
  refine ⟨fun A S ip R n ys s₀ c fs K J gd lv s σ H D g0 hn k hI ht => ?_⟩
  refine gseg_for hs ?_
  obtain ⟨acc, cc, r, I⟩ := hI
  rw [g0.over]
  refine wpAny_mono (hi.run _ s σ H _ I ht) (fun v s1 h1 => wpAny_mono h1 (fun itv s2 h2 p => ?_) fun x s' hx => k.exc n s₀ x s' hx) fun x s' hx => k.exc n s₀ x s' hx
  obtain ⟨it, fp, tn, Jt, H2, e, I2, T, st2, f2, W, ⟨m0, w0⟩, turn⟩ := h2
  subst e
  have notS : ∀ b ∈ fp, b ≠ S := fun b hb z => (f2 b hb).2.2.2.2.2 (S, lstObj acc cc) (List.mem_append_right _ List.mem_cons_self) z.symm
  have stat : ∀ {H' : Hp} {acc' : Array Value} {cc' : Nat}, (∀ b ∈ fp, H' b = none) → ∀ b ∈ fp, FpOk X ((S, lstObj acc' cc') :: ip) H' b := fun {H' acc' cc'} hn b hb => by
    obtain ⟨_, f1, f3, f4, f5, f6⟩ := f2 b hb
    refine ⟨hn b hb, f1, f3, f4, f5, fun q hq => ?_⟩
    rcases List.mem_append.mp hq with z | z
    · exact f6 q (List.mem_append_left _ z)
    · rcases List.mem_cons.mp z with z | z
      · rw [z]
        exact f6 (S, lstObj acc cc) (List.mem_append_right _ List.mem_cons_self)
      · exact f6 q (List.mem_append_right _ (List.mem_cons_of_mem _ z))
  have gl := fun (kk : Result → Sem PySem.Fin) => gc_loop (k := kk) (c' := .forLoop tg (.ref it) body [] X.env) (l := lv []) (kp := []) (p := p) g0 rfl rfl
  have gb := fun (kk : Result → Sem PySem.Fin) => gc_loop (k := kk) (c' := .block [] X.env) (l := lv []) (kp := []) (p := p) g0 rfl rfl
  have loop : ∀ (m n i : Nat) (ys : List V) (s₀ s : Shared) (σ : St) (H : Hp), n + ys.length = sizeLine → W i m ys σ H → tn i s.heap → (∀ b ∈ fp, H b = none) → GI X S ip ys σ H s →
      Seg (model X.prog X.w) A R (GY X S) n s₀ (.forLoop tg (.ref it) body [] X.env) ((model X.prog X.w).den (.forLoop tg (.ref it) body [] X.env))
        (.ret (fun r => ((match r with | .ok f => (.pure f : Sem Flow) | .error e => .raise e).onRaise (cameBack X.env)).wrap K J gd lv) none (gd false) (lv []) c p [] :: fs) s := by
    intro m
    induction m using Nat.strongRecOn with
    | ind m ih =>
      intro n i ys s₀ s3 σ3 H3 hn w3 st3 fr3 hI3
      have ee : ∀ (n : Nat) (s₀ : Shared) (x : Value) (s' : Shared), X.xe x s' → Seg (model X.prog X.w) A R (GY X S) n s₀ (.forLoop tg (.ref it) body [] X.env) (marked X.env x)
          (.ret (fun r => ((match r with | .ok f => (.pure f : Sem Flow) | .error e => .raise e).onRaise (cameBack X.env)).wrap K J gd lv) none (gd false) (lv []) c p [] :: fs) s' := fun n s₀ x s' hx => by
        unfold marked
        rw [Sem.bind_eq_wrap]
        refine seg_wrap ?_
        rw [(gl _).over]
        refine wpAny_bind (wpAny_mono (hp x s' hx) (fun _ s'' hcb => wpAny_theTreesLotGoes ?_) fun y s'' hcb => ?_)
        · exact seg_leaf (.error x) (seg_cameBack g0 k hcb)
        · exact seg_leaf (.error y) (seg_cameBack g0 k hcb)
      obtain ⟨acc3, cc3, r3, I3⟩ := hI3
      refine gseg_turn ?_
      rw [(gl _).over]
      rcases turn i m ys σ3 H3 w3 with ⟨stop, qn⟩ | ⟨go, N, hN, step⟩
      · refine wpAny_mono (T.done X rfl rfl rfl hc i _ s3 σ3 H3 X.xe I3 (stat fr3) st3 stop) (fun r s4 hr => ?_) fun x s' hx => ee n s₀ x s' hx
        obtain ⟨rfl, I4⟩ := hr
        refine seg_again rfl ?_
        show Seg _ A R _ n s₀ _ (((execs [] X.env).onRaise (fun x => do noteFrame x X.env; theTreesLotGoes x)) >>= fun f => (.pure (.done f) : Sem PySem.Fin)) _ s4
        exact seg_leaf (.ok .next) (k.ok n ys s₀ s4 .next hn ⟨σ3, H3, ⟨acc3, cc3, r3, I4⟩, qn⟩)
      · refine wpAny_mono (T.item X rfl rfl rfl hc i _ s3 σ3 H3 X.xe I3 (stat fr3) st3 go) (fun r s4 hr => ?_) fun x s' hx => ee n s₀ x s' hx
        obtain ⟨u, rfl, h4⟩ := hr
        refine wpAny_mono h4 (fun _ s5 h5 => ?_) fun x s' hx => ee n s₀ x s' hx
        obtain ⟨x, H5, I5, r5, y5, st5, fr5⟩ := h5
        have I5' := I5.pinned (stat fr5) (T.obj _ _ st5)
        refine wpAny_mono (hg.run _ s5 σ3 H5 x u _ I5' r5 (step x H5 y5)) (fun _ s6 h6 => ?_) fun x s' hx => ee n s₀ x s' hx
        obtain ⟨σ6, H6, I6, q6⟩ := h6
        have g1 := gl (fun r => ((match r with | .ok f => (.pure f : Sem Flow) | .error e => .raise e).onRaise (cameBack X.env)).wrap K J gd lv)
        have gl' : GC X S (ip ++ pinsAt fp s5.heap) A (.forLoop tg (.ref it) body [] X.env) (.ret (fun r => ((match r with | .ok f => (.pure f : Sem Flow) | .error e => .raise e).onRaise (cameBack X.env)).wrap K J gd lv) none (gd false) (lv []) c p [] :: fs) id :=
          ⟨g1.pn, fun q hq => (List.mem_append.mp hq).elim (g1.ip q) fun z => notS q.1 (of_pinsAt z).1, g1.apart, g1.over, g1.split, g1.guard, rfl⟩
        refine hb.run A S (ip ++ pinsAt fp s5.heap) R n ys s₀ _ _ _ _ id id s6 σ6 H6 { D with nx := N, ct := N, bk := D.nx } gl' hn ⟨fun n' ys' s₀' s7 f hn' hs => ?_, fun n' s₀' x s7 hx => ee n' s₀' x s7 hx⟩ ⟨acc3, cc3, r3, I6⟩ q6
        have back : ∀ {σ7 : St} {H7 : Hp}, GI X S (ip ++ pinsAt fp s5.heap) ys' σ7 H7 s7 → GI X S ip ys' σ7 H7 s7 ∧ tn (i + 1) s7.heap ∧ ∀ b ∈ fp, H7 b = none := fun {σ7 H7} h7 => by
          obtain ⟨acc7, cc7, r7, I7⟩ := h7
          have pin : ∀ b ∈ fp, ∀ o, s5.heap.get? b = some o → s7.heap.get? b = some o ∧ H7 b = none := fun b hb o e => by
            obtain ⟨e1, e2, _⟩ := I7.pin (b, o) (List.mem_append_right _ (List.mem_cons_of_mem _ (List.mem_append_right _ (mem_pinsAt hb e))))
            exact ⟨e1, e2⟩
          refine ⟨⟨acc7, cc7, r7, Inv.unpinned (pins := (S, lstObj acc7 cc7) :: ip) (pl := pinsAt fp s5.heap) I7⟩, T.keep _ _ _ st5 fun b hb o e => (pin b hb o e).1, fun b hb => ?_⟩
          obtain ⟨o, e, _⟩ := T.obj _ _ st5 b hb
          exact (pin b hb o e).2
        cases f with
        | next =>
          obtain ⟨σ7, H7, G7, n7⟩ := hs
          obtain ⟨m', hm, w7⟩ := hN ys' σ7 H7 n7
          obtain ⟨G8, st8, fr8⟩ := back G7
          exact seg_again rfl (ih m' hm n' (i + 1) ys' s₀' s7 σ7 H7 hn' w7 st8 fr8 G8)
        | cont =>
          obtain ⟨σ7, H7, G7, n7⟩ := hs
          obtain ⟨m', hm, w7⟩ := hN ys' σ7 H7 n7
          obtain ⟨G8, st8, fr8⟩ := back G7
          exact seg_again rfl (ih m' hm n' (i + 1) ys' s₀' s7 σ7 H7 hn' w7 st8 fr8 G8)
        | brk =>
          obtain ⟨σ7, H7, G7, n7⟩ := hs
          exact seg_leaf (.ok .next) (k.ok n' ys' s₀' s7 .next hn' ⟨σ7, H7, (back G7).1, n7⟩)
        | ret v =>
          obtain ⟨x7, σ7, H7, G7, r7, n7⟩ := hs
          exact seg_leaf (.ok (.ret v)) (k.ok n' ys' s₀' s7 (.ret v) hn' ⟨x7, σ7, H7, (back G7).1, r7, n7⟩)
  exact loop m0 n 0 ys s₀ s2 σ H2 hn w0 st2 (fun b hb => (f2 b hb).1) ⟨acc, cc, r, I2⟩
end
end L2

set_option Elab.async false
set_option linter.all false
set_option maxRecDepth 100000
set_option maxHeartbeats 4000000
/-! max(xs, default=d), min(xs, default=d), ints -/
namespace L2
open PySem PySem.Spec PyProof.Rows
def mxD (d : Int) : List Int → Int
  | [] => d
  | n :: ns => ns.foldl max n
def mnD (d : Int) : List Int → Int
  | [] => d
  | n :: ns => ns.foldl min n
theorem foldl_max (n : Int) : ∀ ns : List Int, (ns.foldl max n = n ∨ ns.foldl max n ∈ ns) ∧ n ≤ ns.foldl max n ∧ ∀ y ∈ ns, y ≤ ns.foldl max n
  | [] => ⟨.inl rfl, Int.le_refl _, fun _ h => nomatch h⟩
  | k :: ns => by
    obtain ⟨h1, h2, h3⟩ := foldl_max (max n k) ns
    rw [List.foldl_cons]
    refine ⟨?_, by omega, fun y hy => ?_⟩
    · rcases h1 with h1 | h1
      · rcases Int.le_total n k with h | h
        · exact .inr (by rw [h1, Int.max_eq_right h]; exact List.mem_cons_self)
        · exact .inl (by rw [h1, Int.max_eq_left h])
      · exact .inr (List.mem_cons_of_mem _ h1)
    · rcases List.mem_cons.mp hy with rfl | hy
      · omega
      · exact h3 y hy
theorem foldl_min (n : Int) : ∀ ns : List Int, (ns.foldl min n = n ∨ ns.foldl min n ∈ ns) ∧ ns.foldl min n ≤ n ∧ ∀ y ∈ ns, ns.foldl min n ≤ y
  | [] => ⟨.inl rfl, Int.le_refl _, fun _ h => nomatch h⟩
  | k :: ns => by
    obtain ⟨h1, h2, h3⟩ := foldl_min (min n k) ns
    rw [List.foldl_cons]
    refine ⟨?_, by omega, fun y hy => ?_⟩
    · rcases h1 with h1 | h1
      · rcases Int.le_total n k with h | h
        · exact .inl (by rw [h1, Int.min_eq_left h])
        · exact .inr (by rw [h1, Int.min_eq_right h]; exact List.mem_cons_self)
      · exact .inr (List.mem_cons_of_mem _ h1)
    · rcases List.mem_cons.mp hy with rfl | hy
      · omega
      · exact h3 y hy
theorem mxD_mem {d : Int} {ns : List Int} (h : ns ≠ []) : mxD d ns ∈ ns ∧ ∀ y ∈ ns, y ≤ mxD d ns := by
  cases ns with
  | nil => exact absurd rfl h
  | cons n ns =>
    obtain ⟨h1, h2, h3⟩ := foldl_max n ns
    refine ⟨?_, fun y hy => ?_⟩
    · rcases h1 with h1 | h1
      · exact List.mem_cons.mpr (.inl h1)
      · exact List.mem_cons_of_mem _ h1
    · rcases List.mem_cons.mp hy with rfl | hy
      · exact h2
      · exact h3 y hy
theorem mnD_mem {d : Int} {ns : List Int} (h : ns ≠ []) : mnD d ns ∈ ns ∧ ∀ y ∈ ns, mnD d ns ≤ y := by
  cases ns with
  | nil => exact absurd rfl h
  | cons n ns =>
    obtain ⟨h1, h2, h3⟩ := foldl_min n ns
    refine ⟨?_, fun y hy => ?_⟩
    · rcases h1 with h1 | h1
      · exact List.mem_cons.mpr (.inl h1)
      · exact List.mem_cons_of_mem _ h1
    · rcases List.mem_cons.mp hy with rfl | hy
      · exact h2
      · exact h3 y hy
section
variable {X : Cx}
def rMxD (K : PySem.W.Frag) (f : Int → List Int → Int) : List V → List V → Hp → VK → Prop := fun vs zs H Q => ∃ (a : Addr) (ns : List Int) (d : Int), vs = [V.ref a] ∧ zs = [.int d] ∧ SqL K H a (ns.map V.int) ∧ Q (.int (f d ns)) H
theorem ints_pd (ns : List Int) : (ns.map V.int).map pd = ns.map PyData.int := by
  rw [List.map_map]
  rfl
theorem ints_alike (ns : List Int) : PySem.W.AlikeAll (ns.map PyData.int) := by
  refine ⟨fun x hx y hy => ?_, fun x hx => ?_⟩
  · obtain ⟨a, _, rfl⟩ := List.mem_map.mp hx
    obtain ⟨b, _, rfl⟩ := List.mem_map.mp hy
    rfl
  · obtain ⟨a, _, rfl⟩ := List.mem_map.mp hx
    exact fun z => nomatch z
theorem ints_dep (ns : List Int) : PyData.depthAll (ns.map PyData.int) = 0 := by
  rw [← ints_pd]
  exact (lay_all fl_ints).2
theorem cr_maxD (hc : X.calm = true) (hu : X.A.units + 64 < cLine) : CallRK X (.builtin "max") [Str.ofString "default"] (rMxD X.K mxD) := by
  intro pins s σ H vs zs us ws Q I r rz h
  obtain ⟨a, ns, d, rfl, rfl, hs, q⟩ := h
  obtain rfl := Vals.ref1 r
  obtain ⟨w1, rfl, e1⟩ := vals1 rz
  obtain ⟨its, rv, hl, _⟩ := I.list hs
  have hd : DpAll X.K H (ns.map V.int) (ns.map PyData.int) := by rw [← ints_pd]; exact dp_all fl_ints
  obtain ⟨as, h4⟩ := Dp.readsAll I _ _ its hd rv
  refine PySem.W.max_list_default (xs := ns.map PyData.int) (I.ok.hd hc) hl.isList (by simpa using h4) (ints_alike ns) (by rw [ints_dep]; omega) (fun he h' tk hk => ?_) (fun y ys i v h' tk bs he hi hr hk => ?_)
  · have hn : ns = [] := List.map_eq_nil_iff.mp he
    subst hn
    exact ⟨.int d, H, I.kept hk, e1, q⟩
  · cases ns with
    | nil => cases he
    | cons n ns =>
      rw [List.map_cons] at he
      injection he with he1 he2
      subst he1 he2
      rw [PySem.W.maxD_ints] at hr
      cases hr
      exact ⟨.int _, H, I.kept hk, ⟨_, rfl⟩, q⟩
theorem cr_minD (hc : X.calm = true) (hu : X.A.units + 64 < cLine) : CallRK X (.builtin "min") [Str.ofString "default"] (rMxD X.K mnD) := by
  intro pins s σ H vs zs us ws Q I r rz h
  obtain ⟨a, ns, d, rfl, rfl, hs, q⟩ := h
  obtain rfl := Vals.ref1 r
  obtain ⟨w1, rfl, e1⟩ := vals1 rz
  obtain ⟨its, rv, hl, _⟩ := I.list hs
  have hd : DpAll X.K H (ns.map V.int) (ns.map PyData.int) := by rw [← ints_pd]; exact dp_all fl_ints
  obtain ⟨as, h4⟩ := Dp.readsAll I _ _ its hd rv
  refine PySem.W.min_list_default (xs := ns.map PyData.int) (I.ok.hd hc) hl.isList (by simpa using h4) (ints_alike ns) (by rw [ints_dep]; omega) (fun he h' tk hk => ?_) (fun y ys i v h' tk bs he hi hr hk => ?_)
  · have hn : ns = [] := List.map_eq_nil_iff.mp he
    subst hn
    exact ⟨.int d, H, I.kept hk, e1, q⟩
  · cases ns with
    | nil => cases he
    | cons n ns =>
      rw [List.map_cons] at he
      injection he with he1 he2
      subst he1 he2
      rw [PySem.W.minD_ints] at hr
      cases hr
      exact ⟨.int _, H, I.kept hk, ⟨_, rfl⟩, q⟩
end
end L2

set_option Elab.async false
set_option linter.all false
set_option maxRecDepth 100000
set_option maxHeartbeats 4000000
/-! a generator def of the top that keeps its promise; list(f(..)) of it -/
namespace L2
open PySem PySem.Spec PyProof.Rows GenW
section
variable {P : Program} {w : World} {K : PySem.W.Frag} {mg : Str → Option Value} {base : Heap}
structure OwnG (P : Program) (w : World) (K : PySem.W.Frag) (mg : Str → Option Value) (base : Heap) (x : Str) (k : Nat) (ps : List Str) (sp : SpG) : Prop where
  ex : ∃ (f : Addr) (fd : FuncData), GFn P w K mg base k f fd ps sp ∧ mg x = some (.ref f) ∧ PySem.W.keepIn K (.ref f) = true ∧ Binds K fd ps []
theorem DefAt.ownG {x : Str} {st : Stmt} {ps : List Str} {k : Nat} {sp : SpG} (D : DefAt K mg x st ps) (h : ∀ f fd, Fun K x x st f fd → GFn P w K mg base k f fd ps sp) : OwnG P w K mg base x k ps sp := by
  obtain ⟨f, fd, F, hm, hb⟩ := D.ex
  exact ⟨f, fd, h f fd F, hm, F.kp, hb⟩
/-- a generator def by its body -/
theorem gfn_fun {x qual : Str} {st : Stmt} {f : Addr} {fd : FuncData} {N ps : List Str} {k : Nat} {sp : SpG} (F : Fun K x qual st f fd) (S : GScope N ps (defScope st)) (len : ∀ vs H Q E, sp vs H Q E → vs.length = ps.length)
    (hbody : ∀ (cdv : Value) (A : Around) (outer : List Env) (s : Shared) (H : Hp) (vs : List V) (Q : List V → Hp → Prop) (E : XK) (pn : List (Addr × Obj)), Room k (A.deeper (envOfC qual (defScope st) s.heap.objs.size f cdv)) → sp vs H Q E →
      ∃ t, GSs (gcxOf P w K mg base N qual (defScope st) f cdv A outer s H E pn) (defBody st) t ∧ t { nx := fun ys _ H' => Q ys H', rt := fun ys v H' => v = .non ∧ Q ys H' } [] (start N vs) H) : GFn P w K mg base (k + 1) f fd ps sp := by
  obtain ⟨oc, od, kV, doc, pm, an, cdv, ct, osl, rfl, lk, hcd⟩ := F.ex
  exact gfn_of lk hcd S len fun A outer s H vs Q E pn hr hsp => hbody cdv A outer s H vs Q E pn hr hsp
end
section
variable {X : Cx} {x nm : Str} {k : Nat} {ps : List Str} {sp : SpG} {e : Expr} {es : List Expr} {t : TA} {p p2 pos pos2 : Pos}
theorem noStop0 {K : PySem.W.Frag} : NoStop K E0 := fun _ _ _ h => False.elim h
/-- list(f(e, ..)) -/
theorem pe_listOwnG (O : OwnG X.prog X.w X.K X.mg X.base x k ps sp) (hr : Room (k + 3) X.A) (ha : PA X (e :: es) t) (hmg : X.mg nm = none) (hgl : Gl X nm := by rfl) (hg : Gl X x := by rfl) (hv : bootBuiltins nm = some (.type "list") := by decide +kernel) (hnm : nm ≠ "__name__" := by decide) (hdb : (nm == ("__debug__" : Str)) = false := by decide) (hdb2 : (x == ("__debug__" : Str)) = false := by decide)
    (he : starEach (e :: es) X.env = (false, eval e X.env) :: starEach es X.env := by rfl) (hpl : (backTo pos (starEach es X.env)).any (·.1) = false := by rfl)
    (he2 : starEach [Expr.Call (.Name x p) (e :: es) [] pos] X.env = (false, eval (Expr.Call (.Name x p) (e :: es) [] pos) X.env) :: starEach [] X.env := by rfl) : PE X (.Call (.Name nm p2) [.Call (.Name x p) (e :: es) [] pos] [] pos2) (tListG (tCallG sp [] E0 t)) := by
  obtain ⟨f, fd, F, hm, hk, hb⟩ := O.ex
  exact pe_listG (pgen_call F (hr.mono (by omega)) hg hm hk hb .nil ha hdb2 he hpl) passL noStop0 hr hgl hmg hv hnm hdb he2
end
section
variable {K : PySem.W.Frag} {g : TG} {tb : TGn} {D : GEnds} {ys : List V} {σ : St} {H : Hp}
theorem gfor_range {lo : Int} {n : Nat} (Pv : Nat → List V → St → Hp → Prop) (h0 : Pv 0 ys σ H) (hs : ∀ i ys σ H, i < n → Pv i ys σ H → g (.int (lo + i)) σ H fun σ2 H2 => tb { D with nx := Pv (i + 1), ct := Pv (i + 1), bk := D.nx } ys σ2 H2) (hd : ∀ ys σ H, Pv n ys σ H → D.nx ys σ H) :
    ∃ W : Nat → Nat → List V → St → Hp → Prop, (∃ m, W 0 m ys σ H) ∧ ∀ i m ys σ H, W i m ys σ H →
      ((Itr lo n).stop i H ∧ D.nx ys σ H) ∨ ((Itr lo n).go i H ∧ ∃ N : List V → St → Hp → Prop, (∀ ys' σ' H', N ys' σ' H' → ∃ m', m' < m ∧ W (i + 1) m' ys' σ' H') ∧ ∀ x H', (Itr lo n).yld i H x H' → g x σ H' fun σ2 H2 => tb { D with nx := N, ct := N, bk := D.nx } ys σ2 H2) := by
  refine ⟨fun i m ys σ H => m = n - i ∧ i ≤ n ∧ Pv i ys σ H, ⟨n - 0, rfl, Nat.zero_le _, h0⟩, ?_⟩
  rintro i m ys σ H ⟨rfl, hi, pv⟩
  by_cases hlt : i < n
  · refine .inr ⟨hlt, Pv (i + 1), fun ys' σ' H' q => ⟨n - (i + 1), by omega, rfl, hlt, q⟩, fun x H' hy => ?_⟩
    obtain ⟨rfl, rfl⟩ := hy
    exact hs i ys σ _ hlt pv
  · have e : i = n := by omega
    subst e
    exact .inl ⟨Nat.le_refl _, hd ys σ H pv⟩
theorem gfor_list {a : Addr} {xs : List V} (Pv : Nat → List V → St → Hp → Prop) (h0 : Pv 0 ys σ H) (hl : ∀ i ys σ H, i ≤ xs.length → Pv i ys σ H → SqL K H a xs) (hs : ∀ i x ys σ H, xs[i]? = some x → Pv i ys σ H → g x σ H fun σ2 H2 => tb { D with nx := Pv (i + 1), ct := Pv (i + 1), bk := D.nx } ys σ2 H2) (hd : ∀ ys σ H, Pv xs.length ys σ H → D.nx ys σ H) :
    ∃ W : Nat → Nat → List V → St → Hp → Prop, (∃ m, W 0 m ys σ H) ∧ ∀ i m ys σ H, W i m ys σ H →
      ((Itl K a).stop i H ∧ D.nx ys σ H) ∨ ((Itl K a).go i H ∧ ∃ N : List V → St → Hp → Prop, (∀ ys' σ' H', N ys' σ' H' → ∃ m', m' < m ∧ W (i + 1) m' ys' σ' H') ∧ ∀ x H', (Itl K a).yld i H x H' → g x σ H' fun σ2 H2 => tb { D with nx := N, ct := N, bk := D.nx } ys σ2 H2) := by
  refine ⟨fun i m ys σ H => m = xs.length - i ∧ i ≤ xs.length ∧ Pv i ys σ H, ⟨xs.length - 0, rfl, Nat.zero_le _, h0⟩, ?_⟩
  rintro i m ys σ H ⟨rfl, hi, pv⟩
  have hq := hl i ys σ H hi pv
  by_cases hlt : i < xs.length
  · have hx : xs[i]? = some xs[i] := List.getElem?_eq_getElem hlt
    refine .inr ⟨⟨xs, xs[i], hq, hx⟩, Pv (i + 1), fun ys' σ' H' q => ⟨xs.length - (i + 1), by omega, rfl, hlt, q⟩, fun x H' hy => ?_⟩
    obtain ⟨rfl, hy⟩ := hy
    exact hs i x ys σ _ (hy xs hq) pv
  · have e : i = xs.length := by omega
    subst e
    exact .inl ⟨⟨xs, hq, Nat.le_refl _⟩, hd ys σ H pv⟩
theorem gfor_tup {a : Addr} {xs : List V} (Pv : Nat → List V → St → Hp → Prop) (h0 : Pv 0 ys σ H) (hl : ∀ i ys σ H, i ≤ xs.length → Pv i ys σ H → SqT K H a xs) (hs : ∀ i x ys σ H, xs[i]? = some x → Pv i ys σ H → g x σ H fun σ2 H2 => tb { D with nx := Pv (i + 1), ct := Pv (i + 1), bk := D.nx } ys σ2 H2) (hd : ∀ ys σ H, Pv xs.length ys σ H → D.nx ys σ H) :
    ∃ W : Nat → Nat → List V → St → Hp → Prop, (∃ m, W 0 m ys σ H) ∧ ∀ i m ys σ H, W i m ys σ H →
      ((Itt K a).stop i H ∧ D.nx ys σ H) ∨ ((Itt K a).go i H ∧ ∃ N : List V → St → Hp → Prop, (∀ ys' σ' H', N ys' σ' H' → ∃ m', m' < m ∧ W (i + 1) m' ys' σ' H') ∧ ∀ x H', (Itt K a).yld i H x H' → g x σ H' fun σ2 H2 => tb { D with nx := N, ct := N, bk := D.nx } ys σ2 H2) := by
  refine ⟨fun i m ys σ H => m = xs.length - i ∧ i ≤ xs.length ∧ Pv i ys σ H, ⟨xs.length - 0, rfl, Nat.zero_le _, h0⟩, ?_⟩
  rintro i m ys σ H ⟨rfl, hi, pv⟩
  have hq := hl i ys σ H hi pv
  by_cases hlt : i < xs.length
  · have hx : xs[i]? = some xs[i] := List.getElem?_eq_getElem hlt
    refine .inr ⟨⟨xs, xs[i], hq, hx⟩, Pv (i + 1), fun ys' σ' H' q => ⟨xs.length - (i + 1), by omega, rfl, hlt, q⟩, fun x H' hy => ?_⟩
    obtain ⟨rfl, hy⟩ := hy
    exact hs i x ys σ _ (hy xs hq) pv
  · have e : i = xs.length := by omega
    subst e
    exact .inl ⟨⟨xs, hq, Nat.le_refl _⟩, hd ys σ H pv⟩
end
end L2

set_option Elab.async false
set_option linter.all false
set_option maxRecDepth 100000
set_option maxHeartbeats 4000000
/-! ==, not in over data, the kit's own part named -/
namespace L2
open PySem PySem.Spec PyProof.Rows
section
variable {X : Cx} {K : PySem.W.Frag}
theorem op_eqDK (h : X.K = K) (hu : X.A.units + 64 < cLine) : OpR X (compareOp .Eq) (rEqD K) := by
  subst h
  exact op_eqD hu
theorem op_neDK (h : X.K = K) (hu : X.A.units + 64 < cLine) : OpR X (compareOp .NotEq) (rNeD K) := by
  subst h
  exact op_neD hu
theorem op_inDK (h : X.K = K) (hu : X.A.units + 65 < cLine) : OpR X (compareOp .In) (rInD K) := by
  subst h
  exact op_inD hu
theorem op_notInDK (h : X.K = K) (hu : X.A.units + 65 < cLine) : OpR X (compareOp .NotIn) (rNotInD K) := by
  subst h
  exact op_notInD hu
end
end L2

set_option Elab.async false
set_option linter.all false
/-! all, any within comprehensions: the kit's own part named -/
namespace L2
open PySem PySem.Spec PyProof.Rows
section
variable {X : Cx} {K : PySem.W.Frag}
theorem cr_allK (h : X.K = K) (hc : X.calm = true) : CallR X (.builtin "all") (rAll K) := by
  subst h
  exact cr_all hc
theorem cr_anyK (h : X.K = K) (hc : X.calm = true) : CallR X (.builtin "any") (rAny K) := by
  subst h
  exact cr_any hc
end
end L2

set_option Elab.async false
set_option linter.all false
set_option maxRecDepth 100000
set_option maxHeartbeats 4000000
/-! own errors with one field whose own base is OverflowError -/
namespace L2
open PySem PySem.Spec PyProof.Rows
open Builtin Builtin.ObjectAttr PySem.W PySem.HandSPX
/-- what stands behind the class itself -/
abbrev ofBack : List Value := [.type "OverflowError", .type "ArithmeticError", .type "Exception", .type "BaseException", .type "object"]
theorem of_calm (self : Value) (C : Addr) : refuseLoop self "__setattr__" (.ref C :: ofBack) = pure () := by
  rw [refuseLoop_ref]
  exact PySem.F.store_OverflowError.passes self
theorem of_has (Y : String) (C : Addr) : (Value.ref C :: ofBack).contains (.type Y) = ofBack.contains (.type Y) := by
  rw [List.contains_cons]
  rfl
section
variable {prog : Program} {w : World} {A : Around} {R : Result → Shared → Prop} {hp : Heap} {g : Array GenState} {d : Drawn} {t : Nat} {os : OsState}
/-- the first field of such an error -/
theorem of_first {K : Frag} {nm : Str} {tk : Tok} {val : Value} {a C : Addr} {parts : Array Value} {cd : ClassData}
    (inK : K.In hp) (at_a : hp.get? a = some { cls := .ref C, data := .fields parts }) (at_C : clsIn K C = some cd) (line : cd.mro = .ref C :: ofBack) (dct : cd.hasDict = true) (free : findIn K (.ref C) nm = some none)
    (goal : ∀ hp2 tk2 dx, (∀ b o, b ≠ a → hp.get? b = some o → hp2.get? b = some o) → hp.objs.size ≤ dx → dx ≠ a → hp2.get? a = some { cls := .ref C, dict := some dx, data := .fields parts } →
      hp2.Ns1 dx (fun y => if y = nm then some val else none) → R (.ok (.ret .none)) ⟨hp2, g, d, tk2, os⟩) :
    codeAny (model prog w) A (.call (.builtin "object.__setattr__") ⟨[.ref a, .str nm tk, val], []⟩) R ⟨hp, g, d, t, os⟩ := by
  have here : InstAt hp a { cls := .ref C, data := .fields parts } C none := ⟨at_a, rfl, rfl, trivial⟩
  have facts := F.store_object
  have full : cd.mro.isEmpty = false := by rw [line]; rfl
  have top : cd.mro.contains (.type "object") = true := by rw [line, of_has]; decide +kernel
  have off : a ≠ hp.objs.size := Nat.ne_of_lt (Heap.lt_size at_a)
  have isObj : Looks (model prog w) hp (isInstance (.ref a) (.type "object")) true :=
    here.type.andThen (looks_mroIn inK (by unfold mroIn; rw [at_C, Option.bind_some, if_neg (by rw [full]; decide), top]))
  refine codeAny_call_builtin facts.slot.plain facts.entry
    (@check_slot (model prog w) _ _ ⟨hp, g, d, t, os⟩ "object.__setattr__" "object" "__setattr__" (.ref a) [.str nm tk, val] [] _ facts.kind facts.split isObj (facts.args (.ref a) (.str nm tk) val) ?_)
  have mroL : Looks (model prog w) hp (mroOf (.ref C)) cd.mro := (looks_clsIn inK at_C).andThen .now
  have taker : Looks (model prog w) hp (storeTaker? none) none := .now
  have data : Looks (model prog w) hp (classData C) cd := looks_clsIn inK at_C
  rw [osa_eq, refuse_eq]
  refine wpAny_bind (wpAny_bind (here.type.at (wpAny_bind (mroL.at ?_))))
  rw [line, of_calm]
  refine wpAny_pure (wpAny_bind (here.type.at (wpAny_bind ((looks_findIn inK free).at (wpAny_bind (taker.at ?_))))))
  show wpAny _ _ (storeInOwnDict (.ref a) (.ref C) (.str nm tk) nm val false) _ _ _
  obtain ⟨c1, c2, c3, c4, c5, c6, c7, c8, c9, c10, c11⟩ := cd
  dsimp only at dct
  subst dct
  unfold storeInOwnDict ownDictForStores
  repeat (first | with_reducible refine store_in_new ?_ ?_ | with_reducible refine wpAny_loadPart_at at_a ?_ | with_reducible refine data.at ?_ | wp_step)
  · exact ⟨_, #[], _, (Heap.get?_update_ne _ _ _ _ off.symm).trans (Heap.get?_push_at rfl rfl), rfl, fun e he => absurd he (by simp), fun _ => rfl⟩
  · intro hp2 tk2 ns2 same
    have at_a2 : (hp.push { cls := .type "dict", data := .dict #[] }).get? a = some { cls := .ref C, data := .fields parts } := Heap.get?_push_of_some _ at_a
    refine goal hp2 tk2 hp.objs.size (fun b o hb ho => ?_) (Nat.le_refl _) off.symm ?_ ns2
    · exact (same.2 b (Nat.ne_of_lt (Heap.lt_size ho))).trans ((Heap.get?_update_ne _ _ _ _ hb).trans (Heap.get?_push_of_some _ ho))
    · exact (same.2 a off).trans (Heap.get?_update_self _ at_a2 rfl)
end
/-- what the top has of such a class -/
structure OofC (K : PySem.W.Frag) (C : Addr) : Prop where
  cls : ∃ nm q N bs sn sub ab col dd k0 k1 k2 k3 k5, K.lookup C = some (excClassObj nm q C N bs ofBack true sn sub ab col dd k0 k1 k2 k3 k5 "OverflowError.__new__")
  sa : findIn K (.ref C) "__setattr__" = some (some (.builtin "object.__setattr__"))
  exC : subIn K (.ref C) (.type "BaseException") = some true
  tyC : typeIn K (.ref C) = some (.type "type")
  kC : keepIn K (.ref C) = true
section
variable {X : Cx} {pins : List (Addr × Obj)} {σ : St} {H : Hp} {s : Shared} {a C : Addr} {f : Str} {y : V} {u : Value} {Q : Unit → Shared → Prop} {E : Value → Shared → Prop} {A : Around}
theorem of_store (T : OofC X.K C) (I : Inv X pins σ H s) (e : H a = some (exo a C none)) (free : findIn X.K (.ref C) f = some none) (ry : RelV y u)
    (goal : ∀ dx s', H dx = none → dx ≠ a → Inv X pins σ (upd (upd H dx (exd dx [(f, y)])) a (exo a C (some dx))) s' → Q () s') : wpAny (model X.prog X.w) A (setAttr (.ref a) f u) Q E s := by
  obtain ⟨nm, q, N, bs, sn, sub, ab, col, dd, k0, k1, k2, k3, k5, at_C⟩ := T.cls
  have data : clsIn X.K C = some { name := nm, bases := bs, mro := .ref C :: ofBack, ns := N, qualname := q, hasDict := true, slotNames := sn, subclasses := sub, abstract := ab, collection := col, hasDel := false } := by
    unfold clsIn
    rw [at_C] <;> rfl
  obtain ⟨t1, ho⟩ := exo_at I.hok e
  obtain ⟨hp, g, d, t, os⟩ := s
  refine set_plain I.kIn (ox := { cls := .ref C, dict := none, data := .fields #[.ref t1, .none, .none, .none, .bool false, .none] }) (od := none) ⟨ho, rfl, rfl, trivial⟩ T.sa ?_
  refine of_first I.kIn ho data rfl rfl free fun hp2 tk2 dx k far ne at_a ns2 => ?_
  have none_dx : H dx = none := I.hok.fresh far
  have old : ∀ {b : Addr} {o : Obj}, hp.get? b = some o → b ≠ dx := fun {b o} z => Nat.ne_of_lt (Nat.lt_of_lt_of_le (Heap.lt_size z) far)
  have other : ∀ {b : Addr}, H b = none → b ≠ a := fun {b} z w => by
    rw [w, e] at z
    cases z
  have U : Un X.fs [] H (upd (upd H dx (exd dx [(f, y)])) a (exo a C (some dx))) hp hp2 :=
    ⟨fun b o z n _ _ => k b o (other n) z, fun b o z n _ _ => ⟨o.slots, k b o (other n) z⟩, fun b o z n _ => by rw [upd_ne (other n), upd_ne (old z)]; exact n,
      fun b o z _ => by
        by_cases hb : b = a
        · rw [hb]
          exact ⟨_, at_a⟩
        · exact ⟨o, k b o hb z⟩,
      fun b xs z => by rw [upd_ne (at_ne e z exo_tup), upd_ne (ne_of_none z none_dx)]; exact z,
      fun b o v z => by rw [upd_ne (at_ne e z exo_frz), upd_ne (ne_of_none z none_dx)]; exact z,
      fun b ps z => ⟨#[], by rw [upd_ne (at_ne e z exo_tbl), upd_ne (ne_of_none z none_dx), z]; simp⟩⟩
  refine goal dx _ none_dx ne (I.un (t' := tk2) U fun b o z => ?_)
  by_cases hb : b = a
  · subst hb
    rw [upd_same] at z
    cases z
    exact exo_ok at_a
  · rw [upd_ne hb] at z
    by_cases hd : b = dx
    · subst hd
      rw [upd_same] at z
      cases z
      exact exd_ok ns2 (relO_put (fs := []) ry fun _ => True.intro)
    · rw [upd_ne hd] at z
      refine (I.hok b o z).stay (fun c v hc w => k c v ?_ w) (fun c hc => ?_) fun c xs hc => ?_
      · rcases hc with hc | hc
        · rw [hc]
          exact hb
        · exact at_ne e hc exo_own
      · rw [upd_ne (at_ne e hc exo_own), upd_ne (ne_of_none hc none_dx)]
        exact hc
      · rw [upd_ne (at_ne e hc exo_tup), upd_ne (ne_of_none hc none_dx)]
        exact hc
end
/-- self.f = e, the one field -/
def tOstO (K : PySem.W.Frag) (f : Str) (to te : TE) : TS := fun D σ H => te σ H fun y H1 => to σ H1 fun x H2 => ∃ a C : Addr, x = .ref a ∧ OofC K C ∧ findIn K (.ref C) f = some none ∧
  H2 a = some (exo a C none) ∧ ∀ dx, H2 dx = none → dx ≠ a → D.nx σ (upd (upd H2 dx (exd dx [(f, y)])) a (exo a C (some dx)))
section
variable {X : Cx} {o e : Expr} {es : List Expr} {to te : TE} {ta : TA} {f : Str} {p p' pos : Pos}
theorem ps_ostO (ho : PE X o to) (he : PE X e te) (hs : swapsWith e (some (.Attribute o f p')) pos.line X.env = pure false := by rfl) : PS X (.Assign [.Attribute o f p'] e pos) (tOstO X.K f to te) := by
  refine ⟨fun pins s σ H D I h => ?_⟩
  refine plainObj_wpAny_Assign_Attribute (thn (he.run pins s σ H _ I h) fun v s1 ⟨y, H1, I1, r1, q1⟩ => thn (ho.run pins s1 σ H1 _ I1 q1) fun u s2 ⟨x, H2, I2, r2, a, C, ex, T, free, ea, q⟩ => ?_) hs
  subst ex
  obtain rfl : u = Value.ref a := r2
  exact of_store T I2 ea free r1 fun dx s' n ne J => ⟨σ, _, J, q dx n ne⟩
/-- C(e, ..) of such a class -/
theorem pmk_oof {CX : CXT} {x : Str} {C fI : Addr} {k : Nat} {fd : FuncData} {ps : List Str} {sp : Sp} {ds : List Value} {dvs : List V} (T : OofC X.K C) (hasI : findIn X.K (.ref C) "__init__" = some (some (.ref fI))) (isF : typeIn X.K (.ref fI) = some (.type "function"))
    (G : FnOk X.prog X.w X.K X.mg X.base CX k fI fd ps sp) (room : Room (k + 1) X.A) (bind : Binds X.K fd ps ds) (dflt : Vals dvs ds) (pass : Passes CX X (fun _ _ _ => False)) (hg : Gl X x) (hm : X.mg x = some (.ref C)) (ha : PA X (e :: es) ta)
    (hdb : (x == ("__debug__" : Str)) = false := by decide) (he : starEach (e :: es) X.env = (false, eval e X.env) :: starEach es X.env := by rfl) (hpl : (backTo pos (starEach es X.env)).any (·.1) = false := by rfl) :
    PMk X (.Call (.Name x p) (e :: es) [] pos) (tMkO C sp dvs ta) := by
  intro pins s σ H Q I h
  obtain ⟨nm, q, N, bs, sn, sub, ab, col, dd, k0, k1, k2, k3, k5, at_C⟩ := T.cls
  refine wpAny_Call_Name_kw (ld_glob I hg hm ?_ hdb)
  refine callWith_K (h₀ := X.base) I.ok.mod.kin T.kC (thn (ha.run pos pins s σ H _ I h) fun us s1 ⟨vs, H1, I1, r1, hz, q1⟩ => ⟨I1.kIn, ?_⟩) he hpl
  show wpAny _ _ (call (.ref C) us) _ _ _
  obtain ⟨hp, g, dr, tk, os⟩ := s1
  have up1 : hp.objs.size ≤ hp.objs.size + 1 := Nat.le_succ _
  have free1 : H1 (hp.objs.size + 1) = none := I1.hok.fresh up1
  have want := q1 (hp.objs.size + 1) free1
  have kk : ∀ b o, hp.get? b = some o → ((hp.push (kdv_tup us)).push (excO C hp.objs.size)).get? b = some o := fun b o z => Heap.get?_push_of_some _ (Heap.get?_push_of_some _ z)
  have there : ((hp.push (kdv_tup us)).push (excO C hp.objs.size)).get? (hp.objs.size + 1) = some (excO C hp.objs.size) := by heap_get
  have I2 : Inv X pins σ (upd H1 (hp.objs.size + 1) (exo (hp.objs.size + 1) C none)) ⟨(hp.push (kdv_tup us)).push (excO C hp.objs.size), g, dr, tk, os⟩ :=
    I1.laid (t' := tk) (a := hp.objs.size + 1) (o := exo (hp.objs.size + 1) C none) (h' := (hp.push (kdv_tup us)).push (excO C hp.objs.size)) kk up1 (exo_ok there)
  have r2 : Vals (V.ref (hp.objs.size + 1) :: (vs ++ dvs)) (Value.ref (hp.objs.size + 1) :: (us ++ ds)) := .cons rfl (r1.append dflt)
  have many : (Value.ref (hp.objs.size + 1) :: us ++ ds).length = ps.length := by
    have z := r2.length
    rw [G.len _ _ _ _ want] at z
    exact z.symm
  have small : us.length ≤ sizeLine := by
    rw [← Paired.length r1, sizeLine_eq]
    omega
  refine wpAny_call (call_own F.excBase_OverflowError (fun Y => rfl) (I1.kIn _ _ at_C) (looks_findIn I1.kIn hasI) (fun self => bind_fn I1.kIn self isF) small
    (codeAny_mono (G.run _ X.stack _ _ ⟨Value.ref (hp.objs.size + 1) :: us, []⟩ (Value.ref (hp.objs.size + 1) :: (us ++ ds)) _ _ (fun _ _ _ => False) (room.make C us []) (I2.env0.make C us []) (bind _ (Value.ref (hp.objs.size + 1) :: us) I2.kIn many) r2 want) fun r s' hq' => ?_))
  cases r with
  | error er => exact pass pins σ _ _ er s' I2 hq'
  | ok fl =>
    cases fl with
    | ret u =>
      obtain ⟨v, H2, os2, bare2, un2, hok2, rv, ev, dd, fs, ea, ed, hd1, q2⟩ := hq'
      subst ev
      obtain ⟨h2, g2, d2, t2, os'⟩ := s'
      exact ⟨rv, mk_end (raises_own T.exC T.tyC) I1 up1 kk un2 hok2 os2 bare2 ea ed hd1 q2⟩
    | next => exact False.elim hq'
    | brk => exact False.elim hq'
    | cont => exact False.elim hq'
end
/-- all that is asked of the class x of such errors at C, whose field is f -/
structure OCls (P : Program) (w : World) (K : PySem.W.Frag) (mg : Str → Option Value) (base : Heap) (x f : Str) (C : Addr) : Prop where
  ox : OofC K C
  gC : mg x = some (.ref C)
  noA : findIn K (.ref C) f = some none
  ec : ExcC K C
  ini : ∃ (fI : Addr) (fd : FuncData), findIn K (.ref C) "__init__" = some (some (.ref fI)) ∧ typeIn K (.ref fI) = some (.type "function") ∧ FnOk P w K mg base CX0 1 fI fd ["self", f] (spXI C f) ∧ Binds K fd ["self", f] []
theorem OCls.xf {P : Program} {w : World} {K : PySem.W.Frag} {mg : Str → Option Value} {base : Heap} {x f : Str} {C : Addr} (T : OCls P w K mg base x f C) : XfC K C := ⟨T.ec.hg, T.ec.hk, T.ec.hs, T.ec.hd⟩
theorem pmk_O {X : Cx} {C : Addr} {x f : Str} {e : Expr} {te : TE} {p pos : Pos} (T : OCls X.prog X.w X.K X.mg X.base x f C) (room : Room 2 X.A) (he : PE X e te) (hg : Gl X x) (hdb : (x == ("__debug__" : Str)) = false := by decide)
    (hs : starEach [e] X.env = (false, eval e X.env) :: starEach [] X.env := by rfl) (hpl : (backTo pos (starEach [] X.env)).any (·.1) = false := by rfl) :
    PMk X (.Call (.Name x p) [e] [] pos) (tMkO C (spXI C f) [] (tCons te tNil)) := by
  obtain ⟨fI, fd, i1, i2, G, b⟩ := T.ini
  exact pmk_oof (dvs := []) (ds := []) T.ox i1 i2 G room b .nil pass0 hg T.gC (pa_cons he pa_nil hs) hdb hs hpl
/-- what the top has written of it -/
structure XOt (K : PySem.W.Frag) (mg : Str → Option Value) (x f : Str) (C : Addr) (st : Stmt) (qual : Str) : Prop where
  ox : OofC K C
  gC : mg x = some (.ref C)
  noA : findIn K (.ref C) f = some none
  ec : ExcC K C
  tI : ∃ fI, findIn K (.ref C) "__init__" = some (some (.ref fI)) ∧ typeIn K (.ref fI) = some (.type "function") ∧ ∃ fd, Fun K "__init__" qual st fI fd ∧ Binds K fd ["self", f] []
theorem XOt.cls {P : Program} {w : World} {K : PySem.W.Frag} {mg : Str → Option Value} {base : Heap} {x f : Str} {C : Addr} {st : Stmt} {qual : Str} (T : XOt K mg x f C st qual) (h : ∀ fI fd, Fun K "__init__" qual st fI fd → FnOk P w K mg base CX0 1 fI fd ["self", f] (spXI C f)) :
    OCls P w K mg base x f C := by
  obtain ⟨fI, i1, i2, fd, G, b⟩ := T.tI
  exact ⟨T.ox, T.gC, T.noA, T.ec, fI, fd, i1, i2, h fI fd G, b⟩
end L2

set_option Elab.async false
set_option linter.all false
set_option maxRecDepth 100000
/-! the bookkeeping of a walk over a list, whatever a turn's reading is -/
namespace L2
open PySem PySem.Spec PyProof.Rows
theorem steps_list {K : PySem.W.Frag} {a : Addr} {xs : List V} {H0 : Hp} {Qd : Hp → Prop} {step : V → Hp → (Hp → Prop) → Prop} (Pv : Nat → Hp → Prop) (h0 : Pv 0 H0) (hl : ∀ i H, i ≤ xs.length → Pv i H → SqL K H a xs)
    (hs : ∀ i x H, xs[i]? = some x → Pv i H → step x H (Pv (i + 1))) (hd : ∀ H, Pv xs.length H → Qd H) :
    ∃ W : Nat → Nat → Hp → Prop, (∃ m, W 0 m H0) ∧ ∀ i m H, W i m H →
      ((Itl K a).stop i H ∧ Qd H) ∨ ((Itl K a).go i H ∧ ∃ N : Hp → Prop, (∀ H', N H' → ∃ m', m' < m ∧ W (i + 1) m' H') ∧ ∀ x H', (Itl K a).yld i H x H' → step x H' N) := by
  refine ⟨fun i m H => m + i = xs.length ∧ Pv i H, ⟨xs.length, rfl, h0⟩, ?_⟩
  rintro i m H ⟨hm, pv⟩
  have q := hl i H (by omega) pv
  rcases Nat.lt_or_ge i xs.length with h | h
  · have hx : xs[i]? = some xs[i] := List.getElem?_eq_getElem h
    refine .inr ⟨⟨xs, xs[i], q, hx⟩, Pv (i + 1), fun H' pv' => ⟨m - 1, by omega, by omega, pv'⟩, fun x H' y => ?_⟩
    obtain ⟨y1, y2⟩ := y
    subst y1
    exact hs i x _ (y2 xs q) pv
  · obtain rfl : i = xs.length := by omega
    exact .inl ⟨⟨xs, q, Nat.le_refl _⟩, hd H pv⟩
def rLenK (K : PySem.W.Frag) : List V → Hp → VK → Prop := fun xs H Q => ∃ p ys, xs = [.ref p] ∧ (SqL K H p ys ∨ SqT K H p ys) ∧ Q (.int ys.length) H
theorem call_len_seqK {X : Cx} {K : PySem.W.Frag} (h : X.K = K) : CallR X (.builtin "len") (rLenK K) := by
  subst h
  exact call_len_seq
end L2

set_option Elab.async false
set_option linter.all false
set_option maxRecDepth 100000
set_option maxHeartbeats 4000000
/-! list(f(..)) of a generator def that may raise, in a try -/
namespace L2
open PySem PySem.Spec PyProof.Rows GenW
def tListGS (tg : XK → TGen) (E : St → XK) : TE := fun σ H Q => tg (E σ) σ H fun out H2 => ∀ p, H2 p = none → Q (.ref p) (upd H2 p (.lst out))
section
variable {X : Cx} {k : Nat} {p p2 pos pos2 : Pos} {e : Expr} {x nm : Str} {es : List Expr}
theorem pe_listGS {tg : XK → TGen} {E : St → XK} (made : ∀ E, PGen X k e (tg E) E) (pass : ∀ σ, PassesAt (CX X.prog X.w) X σ (E σ)) (nostop : ∀ σ, NoStop X.K (E σ)) (room : Room (k + 3) X.A) (hg : Gl X nm) (hmg : X.mg nm = none) (hv : bootBuiltins nm = some (.type "list"))
    (hnm : nm ≠ "__name__" := by decide) (hdb : (nm == ("__debug__" : Str)) = false := by decide) (he : starEach [e] X.env = (false, eval e X.env) :: starEach [] X.env := by rfl) : PE X (.Call (.Name nm p) [e] [] pos) (tListGS tg E) := by
  refine ⟨fun pins st σ H Q I want => ?_⟩
  refine wpAny_Call_Name_kw (ld_blt I hg hmg hv ?_ hnm hdb)
  refine PyProof.Rows.callWith_type1 ?_ he rfl
  rw [he]
  show wpAny _ _ (spliced ((false, eval e X.env) :: backTo pos (starEach [] X.env))) _ _ st
  refine Calls.spliced_cons (thn ((made (E σ)).run pins st σ H _ I want) fun u st1 ⟨H1, sc, ex, I1, exOk, gen⟩ => ?_)
  refine Calls.spliced_nil ?_
  have grown : sc.heap.objs.size ≤ st1.heap.objs.size := by
    obtain ⟨a, g, c, _, g1, g2, _⟩ := gen
    exact Nat.le_trans g1 (Nat.le_of_lt g2)
  refine call_list_new room I1.ok.frames gen (fun S st2 acc c H' ys a0 a1 a2 a3 a4 a5 a6 a7 a8 a9 => ?_) fun er st2 g left => ?_
  · exact ⟨.ref S, upd H' S (.lst ys), I1.drained (Nat.le_trans grown a0) a3 a1 a2 exOk a4 a5 a6 a7 a8, rfl, a9 S a8⟩
  · have kin : X.K.In st2.heap := by
      obtain ⟨a, B, H', cls, d, _, fl, _, ub, _⟩ := id left
      refine I1.ok.mod.kin.keeps fun b o eb => fl.1 b o (ub.keep b o (I1.bs b o eb).1 (I1.bs b o eb).2 fun hm => ?_)
      rcases List.mem_cons.mp (I1.stkSub b hm) with z | z
      · have z1 := Heap.lt_size eb
        have z2 := Nat.le_trans I1.ok.bsz I1.ok.above
        rw [z] at z1
        exact absurd (Nat.lt_of_lt_of_le z1 z2) (Nat.lt_irrefl _)
      · exact I1.ok.nofr eb z
    refine ⟨notStop_of (nostop σ) kin left, pass σ pins H1 sc er _ I1 ?_⟩
    obtain ⟨a, B, H', cls, d, z1, fl, z2, ub, z3, z4, z5, z6⟩ := left
    exact ⟨a, B, H', cls, d, z1, fl, z2, ub, z3, z4, allBare_setGen z5 rfl, z6⟩
/-- what is wished for, of errors that are no StopIteration -/
def noStopW (K : PySem.W.Frag) (W : WX) : WX := fun cls d σ H => PySem.W.subIn K cls (.type "StopIteration") = some false ∧ W cls d σ H
theorem pe_listOwnGS {ps : List Str} {sp : SpG} {t : TA} {W : WX} (O : OwnG X.prog X.w X.K X.mg X.base x k ps sp) (room : Room (k + 3) X.A) (tk : Takes X W) (ha : PA X (e :: es) t) (hmg : X.mg nm = none) (hgl : Gl X nm := by rfl) (hg : Gl X x := by rfl) (hv : bootBuiltins nm = some (.type "list") := by decide +kernel)
    (hnm : nm ≠ "__name__" := by decide) (hdb : (nm == ("__debug__" : Str)) = false := by decide) (hdb2 : (x == ("__debug__" : Str)) = false := by decide)
    (he : starEach (e :: es) X.env = (false, eval e X.env) :: starEach es X.env := by rfl) (hpl : (backTo pos (starEach es X.env)).any (·.1) = false := by rfl)
    (he2 : starEach [Expr.Call (.Name x p) (e :: es) [] pos] X.env = (false, eval (Expr.Call (.Name x p) (e :: es) [] pos) X.env) :: starEach [] X.env := by rfl) :
    PE X (.Call (.Name nm p2) [.Call (.Name x p) (e :: es) [] pos] [] pos2) (tListGS (fun E => tCallG sp [] E t) (WE (noStopW X.K W))) := by
  obtain ⟨f, fd, F, hm, hk, hb⟩ := O.ex
  exact pe_listGS (fun E => pgen_call (E := E) F (room.mono (by omega)) hg hm hk hb .nil ha hdb2 he hpl) (fun σ => passAt (tk.imp fun _ _ _ _ h => h.2) σ) (fun σ cls d H h => h.1) room hgl hmg hv hnm hdb he2
theorem pe_listOwnGSK {K : PySem.W.Frag} {ps : List Str} {sp : SpG} {t : TA} {W : WX} (hK : X.K = K) (O : OwnG X.prog X.w X.K X.mg X.base x k ps sp) (room : Room (k + 3) X.A) (tk : Takes X W) (ha : PA X (e :: es) t) (hmg : X.mg nm = none) (hgl : Gl X nm := by rfl) (hg : Gl X x := by rfl) (hv : bootBuiltins nm = some (.type "list") := by decide +kernel)
    (hnm : nm ≠ "__name__" := by decide) (hdb : (nm == ("__debug__" : Str)) = false := by decide) (hdb2 : (x == ("__debug__" : Str)) = false := by decide)
    (he : starEach (e :: es) X.env = (false, eval e X.env) :: starEach es X.env := by rfl) (hpl : (backTo pos (starEach es X.env)).any (·.1) = false := by rfl)
    (he2 : starEach [Expr.Call (.Name x p) (e :: es) [] pos] X.env = (false, eval (Expr.Call (.Name x p) (e :: es) [] pos) X.env) :: starEach [] X.env := by rfl) :
    PE X (.Call (.Name nm p2) [.Call (.Name x p) (e :: es) [] pos] [] pos2) (tListGS (fun E => tCallG sp [] E t) (WE (noStopW K W))) := by
  subst hK
  exact pe_listOwnGS O room tk ha hmg hgl hg hv hnm hdb hdb2 he hpl he2
end
section
variable {X : Cx} {K : PySem.W.Frag}
theorem op_ltTK (h : X.K = K) (hu : X.A.units < cLine) : OpR X (compareOp .Lt) (rLtT K) := by
  subst h
  exact op_ltT hu
end
end L2

set_option Elab.async false
set_option linter.all false
set_option maxRecDepth 100000
set_option maxHeartbeats 4000000
/-! set(list of ints) as a value; a tuple read backwards -/
namespace L2
open PySem PySem.Spec PyProof.Rows
section
variable {P : Program} {w : World} {A : Around} {E : Value → Shared → Prop} {s : Shared}
/-- the object that set(..) begins with -/
abbrev bareSet (w : World) : Obj := { cls := .type "set", dict := none, data := .set #[] 0 (.fresh 0 0 (!w.params.followText "set-order")) }
theorem set_of_list {l : Addr} {items : Array Value} (ns : List Int) {Q : Value → Shared → Prop} (calm : A.handled = none) (isL : s.heap.IsList l items) (areI : IntsAre items.toList ns) (few : ns.length + 1 < scanBound)
    (goal : ∀ (hp : Heap) (tk c : Nat), SetR w hp s.heap.objs.size (fun j => decide (j ∈ ns)) c → c ≤ ns.length → (∀ b o, s.heap.get? b = some o → hp.get? b = some o) → Q (.ref s.heap.objs.size) { s with heap := hp, toks := tk }) :
    wpAny (model P w) A (call (.type "set") [.ref l]) Q E s := by
  have same : items.size = ns.length := by
    have z := IntsAre.length areI
    rw [Array.length_toList] at z
    exact z
  obtain ⟨c, tl, mroS⟩ := F.called_set.mro
  have madeS := F.called_set.made
  have subS := F.called_set.sub
  refine wpAny_call (codeAny_of_tree ?_)
  show wpAny _ _ (callAny (.type "set") _) _ _ _
  refine wpAny_pure ⟨Code.quiet_builtin _ (by decide +kernel), codeAny_builtin F.entry_type_call ?_⟩
  rw [Around.under_plain (weight_type_call_type "set" [.ref l] []) rfl]
  have noT := F.called_set.notType
  have canC := F.called_set.canCreate
  have tcs := F.typeCall_set_1 (.ref l)
  repeat (any_goals (first | assumption | wp_step))
  refine codeAny_mono (code_set_led1 (.ref l) (E := E) (Q₁ := fun v st => v = .ref s.heap.objs.size ∧ st = { s with heap := s.heap.push (bareSet w) }) ⟨rfl, rfl⟩) fun r st back => ?_
  cases r with
  | error e => exact back
  | ok fl =>
    cases fl with
    | next => exact back.elim
    | brk => exact back.elim
    | cont => exact back.elim
    | ret v =>
      obtain ⟨rfl, rfl⟩ := back
      have atS : (s.heap.push (bareSet w)).get? s.heap.objs.size = some (bareSet w) := Heap.get?_push_size _ rfl
      have tyS : Shared.TypeIs { s with heap := s.heap.push (bareSet w) } (.ref s.heap.objs.size) "set" := ⟨_, atS, rfl⟩
      have iniL := F.called_set.init.lookup
      have iniB := F.called_set.init.bind (.ref s.heap.objs.size)
      repeat (any_goals (first | assumption | wp_step))
      refine codeAny_mono (codeAny_call_builtin (R := wants (fun r st2 => r = .none ∧ ∃ hp tk c, st2 = { s with heap := hp, toks := tk } ∧ SetR w hp s.heap.objs.size (fun j => decide (j ∈ ns)) c ∧ c ≤ ns.length ∧
        (∀ b o, s.heap.get? b = some o → hp.get? b = some o)) E) F.called_set.init.plain F.entry_set_init (check_set_init_1 tyS ?_)) fun r2 st2 back2 => ?_
      · obtain ⟨ol, atL, clL, nl, daL⟩ := isL
        obtain ⟨o1, o2, o3, o4⟩ := ol
        simp only at clL daL
        subst clL; subst daL
        have atL2 : (s.heap.push (bareSet w)).get? l = some { cls := .type "list", dict := o2, data := .seq items nl, slots := o4 } := Heap.get?_push_of_some _ atL
        have sub1 := F.sub_list_set
        have sub2 := F.sub_list_frozenset
        have ne1 : (Value.type "list" == Value.type "dict") = false := by decide
        have isL2 : (s.heap.push (bareSet w)).IsList l items := ⟨_, atL2, rfl, nl, rfl⟩
        unfold Builtin.«set.__init__» noKeywords Builtin.Frozenset.updateFrom
        generalize hold : pyIter = PI
        wp_walk
        subst hold
        refine wpAny_pyIter_list isL2 ?_
        refine wpAny_bind (wpAny_runValue ?_)
        have below : l < s.heap.objs.size := Heap.lt_size atL
        have calm3 : A.in1.in1.in1.handled = none := by simp [calm]
        have apart : l ≠ (s.heap.push (bareSet w)).objs.size := by
          rw [Heap.size_push]
          exact Nat.ne_of_lt (Nat.lt_succ_of_lt below)
        have outside : s.heap.objs.size ∉ [(s.heap.push (bareSet w)).objs.size, l] := by
          rw [Heap.size_push]
          simp only [List.mem_cons, List.mem_singleton, List.not_mem_nil, or_false, not_or]
          exact ⟨Nat.ne_of_lt (Nat.lt_succ_self _), Nat.ne_of_gt below⟩
        have each : ∀ (i : Nat) (v : Value), items[i]? = some v → ∃ k t, ns[i]? = some k ∧ v = .int k t := fun i v hv => by
          have hi : i < ns.length := by rw [← same]; exact (Array.getElem?_eq_some_iff.mp hv).1
          obtain ⟨t, e⟩ := PyProof.Rows.IntsAre.int_at areI i v (by rw [Array.getElem?_toList]; exact hv)
          refine ⟨ns[i], t, List.getElem?_eq_getElem hi, ?_⟩
          rw [e, List.getD_eq_getElem?_getD, List.getElem?_eq_getElem hi] <;> rfl
        refine set_update_ints ((Walks.list calm3 _ l apart items).toS) s.heap.objs.size outside ns same few each (items.size - 0) 0 _ (by omega) (Nat.zero_le _) ⟨⟨_, Heap.get?_push_size _ rfl, rfl, rfl⟩, (isL2.push _)⟩ ?begin ?done
        case begin => exact ⟨0, Nat.le_refl 0, setR_new_at (Heap.get?_push_of_some _ atS)⟩
        case done =>
          intro st3 c3 mv lec isS
          obtain ⟨hp, g3, d3, tk, os3⟩ := st3
          have eg : g3 = s.gens := mv.gens
          have ed : d3 = s.drawn := mv.drawn
          have eo : os3 = s.os := mv.os
          subst eg; subst ed; subst eo
          show wpAny _ _ _ _ _ _
          refine wpAny_pure ?_
          show wpAny _ _ (ret Value.none) _ _ _
          rw [same] at lec
          refine wpAny_pure ⟨rfl, hp, tk, c3, rfl, isS, lec, fun b o e => ?_⟩
          have b0 : b < s.heap.objs.size := Heap.lt_size e
          have b2 : b ≠ (s.heap.push (bareSet w)).objs.size := by
            rw [Heap.size_push]
            exact Nat.ne_of_lt (Nat.lt_succ_of_lt b0)
          exact mv.heap b o (by simp only [List.mem_cons, List.mem_singleton, List.not_mem_nil, or_false, not_or]; exact ⟨Nat.ne_of_lt b0, b2⟩) (Heap.get?_push_of_some _ (Heap.get?_push_of_some _ e))
      · cases r2 with
        | error e => exact back2
        | ok fl2 =>
          cases fl2 with
          | next => exact back2.elim
          | brk => exact back2.elim
          | cont => exact back2.elim
          | ret r =>
            obtain ⟨rfl, hp, tk, c3, rfl, isS, lec, keep⟩ := back2
            repeat (any_goals (first | assumption | wp_step))
            exact goal _ _ _ isS lec keep
end
def rSetLI (K : PySem.W.Frag) (w : World) : List V → Hp → VK → Prop := fun xs H Q => ∃ (l : Addr) (ns : List Int), xs = [.ref l] ∧ SqL K H l (ns.map V.int) ∧ ns.length ≤ 60 ∧ ∀ p c, H p = none → c ≤ ns.length → Q (.ref p) (upd H p (SetO w p (fun j => decide (j ∈ ns)) c))
theorem cr_setLI {X : Cx} (hc : X.calm = true) : CallR X (.type "set") (rSetLI X.K X.w) := by
  intro pins s σ H xs us Q I r h
  obtain ⟨l, ns, rfl, hq, small, q⟩ := h
  obtain ⟨u, rfl, rx⟩ := vals1 r
  cases rx
  obtain ⟨its, r2, pl, _⟩ := I.list hq
  refine set_of_list ns (I.ok.hd hc) pl.isList (by simpa using intsAre_of r2) (by unfold scanBound; omega) fun hp tk c isS lec keep => ?_
  exact ⟨.ref s.heap.objs.size, _, I.laid (t' := tk) keep (Nat.le_refl _) (setO_new isS), rfl, q _ c (I.hok.fresh (Nat.le_refl _)) lec⟩
end L2

set_option Elab.async false
set_option linter.all false
set_option maxRecDepth 100000
set_option maxHeartbeats 4000000
namespace L2
open PySem PySem.Spec PyProof.Rows
theorem back_places (n : Nat) : Builtin.Slice.slicePlaces ((n : Int) - 1) (-1) (-1) = n := by
  unfold Builtin.Slice.slicePlaces
  rw [if_neg (by omega)]
  by_cases h : ((n : Int) - 1) > -1
  · rw [if_pos h]
    have : ((n : Int) - 1 - -1 - 1) / (- -1) + 1 = (n : Int) := by
      rw [Int.neg_neg, Int.ediv_one]
      omega
    rw [this]
    exact Int.toNat_natCast n
  · rw [if_neg h]
    have : n = 0 := by omega
    rw [this]
    rfl
theorem back_pick (xs : Array Value) : ((List.range xs.size).filterMap fun (m : Nat) => xs[(((xs.size : Int) - 1) + (m : Int) * (-1)).toNat]?).toArray = xs.toList.reverse.toArray := by
  congr 1
  refine List.ext_getElem? fun i => ?_
  have hall : ∀ k, k ≤ xs.size → (List.range k).filterMap (fun (m : Nat) => xs[(((xs.size : Int) - 1) + (m : Int) * (-1)).toNat]?) = xs.toList.reverse.take k := fun k => by
    induction k with
    | zero => intro _; rfl
    | succ k ih =>
      intro hk
      rw [List.range_succ, List.filterMap_append, ih (by omega), List.take_add_one]
      congr 1
      have hi : (((xs.size : Int) - 1) + (k : Int) * (-1)).toNat = xs.size - 1 - k := by omega
      have hlt : xs.size - 1 - k < xs.size := by omega
      have hr : xs.toList.reverse[k]? = some xs[xs.size - 1 - k] := by
        rw [List.getElem?_reverse (by rw [Array.length_toList]; omega), Array.length_toList, Array.getElem?_toList]
        exact Array.getElem?_eq_getElem hlt
      rw [hr, List.filterMap_cons, hi, Array.getElem?_eq_getElem hlt]
      rfl
  rw [hall xs.size (Nat.le_refl _), List.take_of_length_le (by rw [List.length_reverse, Array.length_toList]; exact Nat.le_refl _)]
section
variable {prog : Program} {w : World} {A : Around} {E : Value → Shared → Prop} {s : Shared}
theorem slice_back {sl : Addr} {v1 v2 v3 : Value} {n : Nat} {Q : Int × Int × Nat → Shared → Prop} (isS : s.heap.IsSliceOf sl v1 v2 v3) (p1 : IsPart v1 none) (p2 : IsPart v2 none) (p3 : IsPart v3 (some (-1))) (goal : Q ((n : Int) - 1, -1, n) s) :
    wpAny (model prog w) A (Builtin.Slice.sliceApplied (.ref sl) (pure (n : Int))) Q E s := by
  obtain ⟨os, atS, clS, daS⟩ := id isS
  unfold Builtin.Slice.sliceApplied Builtin.Slice.sliceFields
  refine wpAny_bind (wpAny_bind (wpAny_field atS daS (x := v1) rfl (wpAny_bind (wpAny_field atS daS (x := v2) rfl (wpAny_bind (wpAny_field atS daS (x := v3) rfl (wpAny_pure ?_)))))))
  refine wpAny_bind (HT.slicePart_ p3 ?_)
  show wpAny _ _ (if ((-1 : Int) == 0) = true then _ else _) _ _ s
  rw [if_neg (by decide)]
  refine wpAny_bind (HT.slicePart_ p1 (wpAny_bind (HT.slicePart_ p2 (wpAny_bind (wpAny_pure ?_)))))
  show wpAny _ _ (pure ((n : Int) - 1, (-1 : Int), Builtin.Slice.slicePlaces ((n : Int) - 1) (-1) (-1))) _ _ s
  rw [back_places]
  exact wpAny_pure goal
theorem tuple_back {t sl : Addr} {items : Array Value} {v1 v2 v3 : Value} {Q : Value → Shared → Prop} (isT : IsTup s.heap t items) (isS : s.heap.IsSliceOf sl v1 v2 v3) (p1 : IsPart v1 none) (p2 : IsPart v2 none) (p3 : IsPart v3 (some (-1)))
    (goal : Q (.ref s.heap.objs.size) { s with heap := s.heap.push { cls := .type "tuple", data := .seq items.toList.reverse.toArray } }) (fits : items.size ≤ sizeLine) : wpAny (model prog w) A (getItem (.ref t) (.ref sl)) Q E s := by
  have okR : sizeOk (.seq items.toList.reverse.toArray) := by
    show items.toList.reverse.toArray.size ≤ sizeLine
    rw [List.size_toArray, List.length_reverse, Array.length_toList]
    exact fits
  obtain ⟨os, atS, clS, daS⟩ := id isS
  have tyS : s.TypeIs (.ref sl) "slice" := ⟨os, atS, clS⟩
  unfold getItem
  try with_reducible refine wpAny_holding ?_
  first | refine wpAny_bind (wpAny_pure ?_) | skip
  refine wpAny_bind (wpAny_sequenceKey isT.typeIs (by decide) ?_)
  refine wpAny_bind (wpAny_callSpecial?_slot (name := Str.ofString "__getitem__") isT.typeIs PyProof.Rows.slot_tuple_getitem (wpAny_call_entry PyProof.Rows.slot_tuple_getitem isT.typeIs entry_tuple_getitem ?_ (args_tuple_getitem _ _)))
  show wpAny _ _ (Builtin.Tuple.tupleItemsOf (.ref t) >>= _) _ _ s
  refine wpAny_bind (tupleItemsOf_ isT ?_)
  refine wpAny_bind (wpAny_typeOf tyS ?_)
  rw [if_pos (by decide)]
  refine wpAny_bind (slice_back isS p1 p2 p3 ?_)
  have no : ¬ ((((items.size : Int) - 1) == 0 && (-1 : Int) == 1 && items.size == items.size) = true) := by
    rw [show ((-1 : Int) == 1) = false by decide, Bool.and_false, Bool.false_and]
    exact Bool.false_ne_true
  show wpAny _ _ (if (((items.size : Int) - 1) == 0 && (-1 : Int) == 1 && items.size == items.size) = true then _ else _) _ _ s
  rw [if_neg no, back_pick]
  first
    | exact wpAny_bind (m := Builtin.Tuple.tupleExact _) (wpAny_newObj_type (wpAny_pure ⟨_, rfl, wpAny_pure goal⟩) okR)
    | exact wpAny_bind (m := Builtin.Tuple.tupleExact _) (wpAny_newObj_type (wpAny_bind (wpAny_pure (wpAny_pure ⟨_, rfl, wpAny_pure goal⟩))) okR)
    | exact wpAny_bind (wpAny_bind (m := Builtin.Tuple.tupleExact _) (wpAny_newObj_type (wpAny_pure (wpAny_pure ⟨_, rfl, wpAny_pure goal⟩)) okR))
    | exact wpAny_bind (wpAny_bind (m := Builtin.Tuple.tupleExact _) (wpAny_newObj_type (wpAny_pure ⟨_, rfl, wpAny_pure goal⟩) okR))
end
/-- t[::-1] -/
def tRevT (K : PySem.W.Frag) (te : TE) : TE := fun σ H Q => te σ H fun x H1 => ∃ a xs, x = .ref a ∧ SqT K H1 a xs ∧ ∀ p, H1 p = none → Q (.ref p) (upd H1 p (.tup xs.reverse))
theorem pe_revT {X : Cx} {e : Expr} {te : TE} {k : Nat} {p1 p2 p3 pos : Pos} (he : PE X e te) : PE X (.Subscript e (.Slice none none (some (.UnaryOp .USub (.Constant (.int 1) k p1) p2)) p3) pos) (tRevT X.K te) := by
  refine ⟨fun pins st σ H Q I want => ?_⟩
  refine Subscript_ (thn (he.run pins st σ H _ I want) fun v s1 ⟨x, H1, I1, r1, q1⟩ => ?_)
  obtain ⟨a, xs, ex, isT, q⟩ := q1
  subst ex
  cases r1
  have step : PO X (some (.UnaryOp .USub (.Constant (.int 1) k p1) p2)) (tPart (tUn (rU fun i => .int (-i)) (tC (.int 1)))) := po_some (pe_un un_neg pe_int)
  refine wpAny_Slice (thn (po_none.run pins s1 σ H1 (fun o H2 => o = none ∧ H2 = H1) I1 ⟨rfl, rfl⟩) fun vl s2 ⟨l, H2, I2, pl, el, e2⟩ => ?_)
  subst el e2
  refine thn (po_none.run pins s2 σ H2 (fun o H3 => o = none ∧ H3 = H2) I2 ⟨rfl, rfl⟩) fun vu s3 ⟨u, H3, I3, pu, eu, e3⟩ => ?_
  subst eu e3
  refine thn (step.run pins s3 σ H3 (fun o H4 => o = some (-1) ∧ H4 = H3) I3 ⟨1, rfl, -1, rfl, rfl, rfl⟩) fun vs s4 ⟨o, H4, I4, ps, eo, e4⟩ => ?_
  subst eo e4
  have I5 : Inv X pins σ H4 { s4 with heap := s4.heap.push { cls := .type "slice", data := .fields #[vl, vu, vs] } } := I4.kept (t' := s4.toks) fun b ob z => Heap.get?_push_of_some _ z
  obtain ⟨its, r, ht, hz⟩ := I5.tuple isT
  have many := r.length
  show wpAny (model X.prog X.w) X.A (subscriptTail e (.Slice none none (some (.UnaryOp .USub (.Constant (.int 1) k p1) p2)) p3) (.ref a) (.ref s4.heap.objs.size)) (EP X pins σ Q) X.xe { s4 with heap := s4.heap.push { cls := .type "slice", data := .fields #[vl, vu, vs] } }
  refine tail_any (ops := [.ref a, .ref s4.heap.objs.size]) ht.typeIs (PyProof.Rows.slot_tuple_getitem.lookup) ?_ (by with_unfolding_all rfl)
  refine tuple_back ht (Heap.IsSliceOf.new _ vl vu vs) pl pu ps ?_ (by rw [List.size_toArray]; omega)
  refine ⟨.ref _, _, I5.laid (t' := s4.toks) (o := .tup xs.reverse) (fun b ob z => Heap.get?_push_of_some _ z) (Nat.le_refl _) ?_, rfl, q _ (I5.hok.fresh (Nat.le_refl _))⟩
  exact ⟨by rw [List.length_reverse]; exact hz, _, r.reverse, IsTup.new _ _⟩
end L2

set_option Elab.async false
set_option linter.all false
set_option maxRecDepth 100000
/-! len of a set of ints: as many as its members -/
namespace L2
open PySem PySem.Spec PyProof.Rows
def rLenSetO (w : World) : List V → Hp → VK → Prop := fun xs H Q => ∃ (a : Addr) (S : Int → Bool) (n : Nat), xs = [.ref a] ∧ H a = some (SetO w a S n) ∧ n ≤ 1000 ∧ ((∃ l : List Int, l.Nodup ∧ l.length = n ∧ ∀ k, k ∈ l ↔ S k = true) → Q (.int n) H)
theorem cr_lenSetO {X : Cx} : CallR X (.builtin "len") (rLenSetO X.w) := by
  intro pins s σ H xs us Q I r h
  obtain ⟨a, S, n, rfl, ha, h64, q⟩ := h
  have R := setO_get I ha
  rw [Vals.ref1 r]
  obtain ⟨o, es, ep, t, ho, hex, hd, g, nd, hm, hb, hf, hn, hr, hl⟩ := R
  refine call_len_set ho hex hd hf (by rw [hn]; omega) ⟨.int n, H, I.tok _, ⟨_, by rw [hn]⟩, q ⟨es.toList.map keyOf, nd, ?_, fun k => (hm k).symm⟩⟩
  rw [List.length_map, Array.length_toList]
  exact hn
/-- the bookkeeping of a walk over a range, whatever a turn's reading is -/
theorem steps_range {lo : Int} {n : Nat} {H0 : Hp} {Qd : Hp → Prop} {step : V → Hp → (Hp → Prop) → Prop} (Pv : Nat → Hp → Prop) (h0 : Pv 0 H0)
    (hs : ∀ i H, i < n → Pv i H → step (.int (lo + i)) H (Pv (i + 1))) (hd : ∀ H, Pv n H → Qd H) :
    ∃ W : Nat → Nat → Hp → Prop, (∃ m, W 0 m H0) ∧ ∀ i m H, W i m H →
      ((Itr lo n).stop i H ∧ Qd H) ∨ ((Itr lo n).go i H ∧ ∃ N : Hp → Prop, (∀ H', N H' → ∃ m', m' < m ∧ W (i + 1) m' H') ∧ ∀ x H', (Itr lo n).yld i H x H' → step x H' N) := by
  refine ⟨fun i m H => m = n - i ∧ i ≤ n ∧ Pv i H, ⟨n, by simp, Nat.zero_le _, h0⟩, ?_⟩
  rintro i m H ⟨rfl, hi, p⟩
  by_cases hlt : i < n
  · refine .inr ⟨hlt, Pv (i + 1), fun H' p' => ⟨n - (i + 1), by omega, rfl, hlt, p'⟩, fun x H' y => ?_⟩
    obtain ⟨e, y⟩ := y
    subst e y
    exact hs i _ hlt p
  · obtain rfl : i = n := by omega
    exact .inl ⟨Nat.le_refl _, hd H p⟩
end L2

set_option Elab.async false
set_option linter.all false
set_option maxRecDepth 100000
set_option maxHeartbeats 4000000
/-! zip of two things, each a list or a tuple -/
namespace L2
open PySem PySem.Spec PyProof.Rows
def SqB (K : PySem.W.Frag) (t : Bool) (H : Hp) (a : Addr) (xs : List V) : Prop := match t with | true => SqT K H a xs | false => SqL K H a xs
def SeqB (h : Heap) (t : Bool) (a : Addr) (items : Array Value) : Prop := match t with | true => h.IsTuple a items | false => h.IsList a items
def IterB (h : Heap) (t : Bool) (it a : Addr) (i : Nat) : Prop := match t with | true => h.IsTupleIter it a i | false => h.IsListIter it a i
def obB (t : Bool) (a : Addr) : Obj := match t with | true => { cls := .type "tuple_iterator", data := .fields #[.ref a, .int 0 0] } | false => { cls := .type "list_iterator", data := .fields #[.ref a, .int 0 0] }
theorem drawsB {prog : Program} {w : World} {A : Around} (t : Bool) (hh : A.handled = none) (it l : Addr) (hne : l ≠ it) (items : Array Value) :
    Draws prog w A it [it, l] items.size (fun i v => items[i]? = some v) (fun i h => IterB h t it l i ∧ SeqB h t l items) := by
  cases t with
  | true => exact Draws.tuple hh it l hne items
  | false => exact Draws.list hh it l hne items
theorem beginsB (t : Bool) (l : Addr) (items : Array Value) : Begins (.ref l) (obB t l) (fun h => SeqB h t l items) := by
  cases t with
  | true => exact begins_tuple l items
  | false => exact begins_list l items
theorem iterB_new {h : Heap} {t : Bool} {it l : Addr} (e : h.get? it = some (obB t l)) : IterB h t it l 0 := by
  cases t with
  | true => exact ⟨_, e, rfl, rfl⟩
  | false => exact ⟨_, e, rfl, rfl⟩
theorem IterB.live {h : Heap} {t : Bool} {it a : Addr} {i : Nat} (q : IterB h t it a i) : ∃ o, h.get? it = some o ∧ ∀ v, o.data ≠ .cell v := by
  cases t with
  | true =>
    obtain ⟨o, e, _, d⟩ := q
    exact ⟨o, e, fun v q => by rw [d] at q; cases q⟩
  | false =>
    obtain ⟨o, e, _, d⟩ := q
    exact ⟨o, e, fun v q => by rw [d] at q; cases q⟩
theorem IterB.at {h h' : Heap} {t : Bool} {it a : Addr} {i : Nat} (q : IterB h t it a i) (k : ∀ o, h.get? it = some o → h'.get? it = some o) : IterB h' t it a i := by
  cases t with
  | true => exact Heap.IsTupleIter.at q k
  | false => exact Heap.IsListIter.at q k
theorem SeqB.lt {h : Heap} {t : Bool} {a : Addr} {items : Array Value} (q : SeqB h t a items) : a < h.objs.size := by
  cases t with
  | true =>
    obtain ⟨o, e, _⟩ := q
    exact Heap.lt_size e
  | false =>
    obtain ⟨o, e, _⟩ := q
    exact Heap.lt_size e
section
variable {X : Cx} {pins : List (Addr × Obj)} {σ : St} {H : Hp} {s : Shared}
theorem inv_seqB {t : Bool} {a : Addr} {xs : List V} (I : Inv X pins σ H s) (q : SqB X.K t H a xs) : ∃ its : List Value, Vals xs its ∧ SeqB s.heap t a its.toArray := by
  cases t with
  | true =>
    obtain ⟨its, rv, p, _⟩ := I.tuple q
    exact ⟨its, rv, p⟩
  | false =>
    obtain ⟨its, rv, p, _⟩ := I.list q
    exact ⟨its, rv, p.isList⟩
theorem inv_injB {t : Bool} {a : Addr} {xs ys : List V} (I : Inv X pins σ H s) (q : SqB X.K t H a xs) (q' : SqB X.K t H a ys) : xs = ys := by
  cases t with
  | true => exact I.tuple_inj q q'
  | false => exact I.list_inj q q'
end
theorem SqB.ext {K : PySem.W.Frag} {t : Bool} {H H' : Hp} {a : Addr} {xs : List V} (q : SqB K t H a xs) (e : Ext H H') : SqB K t H' a xs := by
  cases t with
  | true => exact SqT.ext q e
  | false => exact SqL.ext q e
/-- the two things as they stand at each turn, the items in new pairs -/
def ItzB (K : PySem.W.Frag) (t1 t2 : Bool) (a b : Addr) : It :=
  ⟨fun i H => ∃ (xs ys : List V), SqB K t1 H a xs ∧ SqB K t2 H b ys ∧ i < xs.length ∧ i < ys.length,
    fun i H v H' => ∃ T x y, v = .ref T ∧ H T = none ∧ H' = upd H T (.tup [x, y]) ∧ (∀ xs, SqB K t1 H a xs → xs[i]? = some x) ∧ ∀ ys, SqB K t2 H b ys → ys[i]? = some y,
    fun i H => ∃ xs ys : List V, SqB K t1 H a xs ∧ SqB K t2 H b ys ∧ i = min xs.length ys.length⟩
theorem turn_zipB {P : Program} {w : World} {K : PySem.W.Frag} {elts : List Expr} {kk : Nat} {tpos : Pos} {t1 t2 : Bool} {a b z TI TO i1 i2 : Addr} (D : ZipApart z TI TO i1 i2 a b) :
    Turn P w K (.Tuple elts kk tpos) (ItzB K t1 t2 a b) [z, TI, TO, i1, i2] z (fun i h => IsZip h z TI TO .none ∧ IsTupOf2 h TI (.ref i1) (.ref i2) ∧ (∃ x y, IsTupOf2 h TO x y) ∧ IterB h t1 i1 a i ∧ IterB h t2 i2 b i) where
  mem := by simp
  obj := fun i h st c hc => by
    obtain ⟨hz, hTI, ⟨x, y, hTO⟩, h1, h2⟩ := st
    have e' : c = z ∨ c = TI ∨ c = TO ∨ c = i1 ∨ c = i2 := by simpa using hc
    rcases e' with q | q | q | q | q
    · rw [q]; exact ⟨_, hz, fun v q => nomatch q⟩
    · rw [q]; exact ⟨_, hTI, fun v q => nomatch q⟩
    · rw [q]; exact ⟨_, hTO, fun v q => nomatch q⟩
    · rw [q]; exact h1.live
    · rw [q]; exact h2.live
  keep := fun i h h' st k => by
    obtain ⟨hz, hTI, ⟨x, y, hTO⟩, h1, h2⟩ := st
    exact ⟨k z (by simp) _ hz, k TI (by simp) _ hTI, ⟨x, y, k TO (by simp) _ hTO⟩, h1.at fun o q => k i1 (by simp) o q, h2.at fun o q => k i2 (by simp) o q⟩
  item := by
    intro X hP hw hK hc i pins s σ H E I hf st hg
    subst hP hw hK
    obtain ⟨hz, hTI, ⟨x0, y0, hTO⟩, h1, h2⟩ := st
    obtain ⟨xs, ys, hqx, hqy, hx, hy⟩ := hg
    obtain ⟨its, rv, p⟩ := inv_seqB I hqx
    obtain ⟨its2, rv2, p2⟩ := inv_seqB I hqy
    have l1 := rv.length
    have l2 := rv2.length
    have hzl : z < s.heap.objs.size := Heap.lt_size hz
    have Sp : ZipSep2 z TI TO i1 i2 [i1, a] [i2, b] := ⟨D.TIz, D.TOz, D.TITO, D.TIi1, by simp, by simp [Ne.symm D.i1z, Ne.symm D.l1z], by simp [D.TOi1, Ne.symm D.l1TO], D.TIi2, by simp, by simp [Ne.symm D.i2z, Ne.symm D.l2z], by simp [D.TOi2, Ne.symm D.l2TO], by simp [D.i12, Ne.symm D.l2i1], by simp [Ne.symm D.i12, Ne.symm D.l1i2]⟩
    have D1 := drawsB (prog := X.prog) (w := X.w) (A := X.A.in1) t1 (show X.A.in1.handled = none from I.ok.hd hc) i1 a D.l1i1 its.toArray
    have D2 := drawsB (prog := X.prog) (w := X.w) (A := X.A.in1) t2 (show X.A.in1.handled = none from I.ok.hd hc) i2 b D.l2i2 its2.toArray
    refine wpAny_pyNext_zipD2_item Sp D1 D2 hz hTI hTO ⟨h1, p⟩ ⟨h2, p2⟩ (by simp; omega) (by simp; omega) fun u u2 h' tk hP1 hP2 z' TO' h1' h2' hT hsz hk => ?_
    have hu : its[i]? = some u := by simpa using hP1
    have hu2 : its2[i]? = some u2 := by simpa using hP2
    obtain ⟨x, hxx⟩ : ∃ x, xs[i]? = some x := ⟨_, List.getElem?_eq_getElem hx⟩
    obtain ⟨y, hyy⟩ : ∃ y, ys[i]? = some y := ⟨_, List.getElem?_eq_getElem hy⟩
    obtain ⟨u', hu', ru⟩ := rv.get hxx
    obtain ⟨u2', hu2', ru2⟩ := rv2.get hyy
    obtain rfl : u' = u := Option.some.inj (hu'.symm.trans hu)
    obtain rfl : u2' = u2 := Option.some.inj (hu2'.symm.trans hu2)
    refine ⟨_, rfl, wpAny_letOwnedTupleGo_zip (s := { s with heap := h', toks := tk }) z' fun h'' z'' sb => ?_⟩
    have hT2 : h''.get? s.heap.objs.size = some { cls := .type "tuple", data := .seq #[u', u2'] } := (sb.2 _ (Nat.ne_of_gt hzl)).trans hT
    have new : ObjOk X.prog X.w (upd H s.heap.objs.size (.tup [x, y])) h'' s.heap.objs.size (.tup [x, y]) :=
      ⟨by show 2 ≤ sizeLine; decide, [u', u2'], .cons ru (.cons ru2 .nil), ⟨_, hT2, rfl, _, rfl⟩⟩
    have I1 : Inv X pins σ (upd H s.heap.objs.size (.tup [x, y])) { s with heap := h'', toks := tk } :=
      I.turnedNew (ch := [z, TI, TO, i1, i2]) (fun c o hb q => (sb.2 c (fun q' => hb (by simp [q']))).trans (hk c o (fun q' => hb (by simp [q'])) (fun q' => hb (by simp [q'])) (fun q' => hb (by simp [q'])) (fun q' => hb (by simp [q'])) q)) hf (Nat.le_refl _) new
    refine ⟨.ref s.heap.objs.size, _, I1, rfl, ⟨_, x, y, rfl, I.hok.fresh (Nat.le_refl _), rfl, fun l hl => by rw [inv_injB I hl hqx]; exact hxx, fun l hl => by rw [inv_injB I hl hqy]; exact hyy⟩, ⟨z'', ?_, ⟨u', u2', ?_⟩, ?_, ?_⟩, fun c hcm => ?_⟩
    · exact (sb.2 _ D.TIz).trans (hk _ _ D.TIz D.TITO D.TIi1 D.TIi2 hTI)
    · exact (sb.2 _ D.TOz).trans TO'
    · exact h1'.1.at fun o q => (sb.2 _ D.i1z).trans q
    · exact h2'.1.at fun o q => (sb.2 _ D.i2z).trans q
    · have hlt : c < s.heap.objs.size := by
        have e' : c = z ∨ c = TI ∨ c = TO ∨ c = i1 ∨ c = i2 := by simpa using hcm
        rcases e' with q | q | q | q | q
        · rw [q]; exact hzl
        · rw [q]; exact Heap.lt_size hTI
        · rw [q]; exact Heap.lt_size hTO
        · rw [q]; obtain ⟨_, e1, _⟩ := h1.live; exact Heap.lt_size e1
        · rw [q]; obtain ⟨_, e2, _⟩ := h2.live; exact Heap.lt_size e2
      rw [upd_ne (Nat.ne_of_lt hlt)]
      exact (hf c hcm).1
  done := by
    intro X hP hw hK hc i pins s σ H E I hf st hg
    subst hP hw hK
    obtain ⟨hz, hTI, ⟨x0, y0, hTO⟩, h1, h2⟩ := st
    obtain ⟨xs, ys, hqx, hqy, hend⟩ := hg
    obtain ⟨its, rv, p⟩ := inv_seqB I hqx
    obtain ⟨its2, rv2, p2⟩ := inv_seqB I hqy
    have l1 := rv.length
    have l2 := rv2.length
    have Sp : ZipSep2 z TI TO i1 i2 [i1, a] [i2, b] := ⟨D.TIz, D.TOz, D.TITO, D.TIi1, by simp, by simp [Ne.symm D.i1z, Ne.symm D.l1z], by simp [D.TOi1, Ne.symm D.l1TO], D.TIi2, by simp, by simp [Ne.symm D.i2z, Ne.symm D.l2z], by simp [D.TOi2, Ne.symm D.l2TO], by simp [D.i12, Ne.symm D.l2i1], by simp [Ne.symm D.i12, Ne.symm D.l1i2]⟩
    have D1 := drawsB (prog := X.prog) (w := X.w) (A := X.A.in1) t1 (show X.A.in1.handled = none from I.ok.hd hc) i1 a D.l1i1 its.toArray
    have D2 := drawsB (prog := X.prog) (w := X.w) (A := X.A.in1) t2 (show X.A.in1.handled = none from I.ok.hd hc) i2 b D.l2i2 its2.toArray
    refine wpAny_pyNext_zipD2_end Sp D1 D2 hz hTI hTO ⟨h1, p⟩ ⟨h2, p2⟩ (by simp; omega) (by simp; omega) (by simp; omega) fun h' tk hk => ⟨rfl, I.turnedL (t' := tk) (ch := [z, TI, TO, i1, i2]) (fun c o hb q =>
      hk c o (fun q' => hb (by simp [q'])) (fun q' => hb (by simp [q'])) (fun q' => hb (by simp [q'])) (fun q' => hb (by simp [q'])) q) hf⟩
  self := fun A i s Q E st h => wpAny_pyIter_zip st.1 h
def iZipB (K : PySem.W.Frag) (t1 t2 : Bool) (ta : TA) : TI := fun σ H R => ta σ H fun vs H1 => ∃ a b xs ys, vs = [.ref a, .ref b] ∧ SqB K t1 H1 a xs ∧ SqB K t2 H1 b ys ∧ R (ItzB K t1 t2 a b) H1
theorem pi_zipB {X : Cx} (t1 t2 : Bool) {e e2 : Expr} {ta : TA} {p pos tpos : Pos} {elts : List Expr} {kk : Nat} (hg : Gl X "zip") (hm : X.mg "zip" = none) (ha : PA X [e, e2] ta)
    (hs : starEach [e, e2] X.env = (false, eval e X.env) :: starEach [e2] X.env := by rfl) (hpl : (backTo pos (starEach [e2] X.env)).any (·.1) = false := by rfl) :
    PI X (.Tuple elts kk tpos) (.Call (.Name "zip" p) [e, e2] [] pos) (iZipB X.K t1 t2 ta) := by
  refine ⟨fun pins s σ H R I h => ?_⟩
  refine Call_ (ld_blt I hg hm PyProof.Rows.boot_zip (PyProof.Rows.callWith_type1 (thn (ha.run pos pins s σ H _ I h) fun us s1 ⟨vs, H1, I1, r1, q1⟩ => ?_) hs hpl))
  obtain ⟨a, b, xs, ys, ex, hqx, hqy, q⟩ := q1
  subst ex
  cases r1 with
  | cons r rr =>
    cases rr with
    | cons r' rr =>
      cases rr
      cases r
      cases r'
      have fresh5 : ∀ c, c ∈ [s1.heap.objs.size + 4, s1.heap.objs.size + 2, s1.heap.objs.size + 3, s1.heap.objs.size, s1.heap.objs.size + 1] → FpOk X pins H1 c := fun c hcm => by
        have e' : c = s1.heap.objs.size + 4 ∨ c = s1.heap.objs.size + 2 ∨ c = s1.heap.objs.size + 3 ∨ c = s1.heap.objs.size ∨ c = s1.heap.objs.size + 1 := by simpa using hcm
        have hle : s1.heap.objs.size ≤ c := by
          rcases e' with z | z | z | z | z
          · rw [z]; exact Nat.le_add_right _ _
          · rw [z]; exact Nat.le_add_right _ _
          · rw [z]; exact Nat.le_add_right _ _
          · rw [z]; exact Nat.le_refl _
          · rw [z]; exact Nat.le_add_right _ _
        exact I1.fpOk hle (I1.hok.fresh hle)
      obtain ⟨its, rv, p1⟩ := inv_seqB I1 hqx
      obtain ⟨its2, rv2, p2⟩ := inv_seqB I1 hqy
      refine zip_begins2 (beginsB t1 a its.toArray) (beginsB t2 b its2.toArray) p1 p2 fun h' hz hTI hTO h1 h2 hsz hk => wpAny_pyIter_zip hz ?_
      have I2 : Inv X pins σ H1 { s1 with heap := h' } := I1.kept (t' := s1.toks) hk
      exact ⟨s1.heap.objs.size + 4, [s1.heap.objs.size + 4, s1.heap.objs.size + 2, s1.heap.objs.size + 3, s1.heap.objs.size, s1.heap.objs.size + 1], _, _, H1, rfl, I2, turn_zipB (PySem.W.ktu_apart s1.heap.objs.size a b p1.lt p2.lt), ⟨hz, hTI, ⟨_, _, hTO⟩, iterB_new h1, iterB_new h2⟩, fresh5, q⟩
theorem walk_zipB {K : PySem.W.Frag} {t1 t2 : Bool} {a b : Addr} {xs ys : List V} {n : Nat} (hn : n = min xs.length ys.length) : Walk (ItzB K t1 t2 a b) n (fun H => SqB K t1 H a xs ∧ SqB K t2 H b ys) (YPair (fun i => xs[i]?) (fun i => ys[i]?)) := by
  subst hn
  refine ⟨fun i _ hi q => ⟨xs, ys, q.1, q.2, by omega, by omega⟩, fun _ q => ⟨xs, ys, q.1, q.2, rfl⟩, fun i H v H' _ q y => ?_⟩
  obtain ⟨T, x, y, e1, e2, e3, e4, e5⟩ := y
  exact ⟨T, x, y, e1, e2, e3, e4 xs q.1, e5 ys q.2⟩
end L2

set_option Elab.async false
set_option linter.all false
set_option maxRecDepth 100000
set_option maxHeartbeats 1000000
/-! list.remove of a flat item -/
namespace L2
open PySem PySem.Spec PyProof.Rows
section
variable {X : Cx}
def rRemF : V → List V → Hp → VK → Prop := fun x xs H Q => ∃ (l : Addr) (ys : List V) (y : V) (j : Nat) (z : V), x = .ref l ∧ xs = [y] ∧ H l = some (.lst ys) ∧ flatV y = true ∧ ys.all flatV = true ∧ ys[j]? = some z ∧ eqV z y = true ∧
  (∀ (m : Nat) (z' : V), m < j → ys[m]? = some z' → eqV z' y = false) ∧ Q .non (upd H l (.lst (ys.eraseIdx j)))
theorem mt_removeF : MtM X "list.remove" rRemF := by
  intro pins s σ H x xs v us Q I rx rxs h
  obtain ⟨l, ys, y, j, z, rfl, rfl, hH, fy, fys, hz, hzj, hno, q⟩ := h
  cases rx
  obtain ⟨u, rfl, ry⟩ := rxs.one
  obtain ⟨zz, its, n, rv, hl, e⟩ := I.lstM hH
  obtain ⟨w, hw, ru⟩ := rv.get hz
  obtain ⟨hjl, hje⟩ := List.getElem?_eq_some_iff.mp hw
  have hvl := rv.length
  have hj : j < its.toArray.size := by simpa using hjl
  refine call_meets PySem.F.slot_list_remove ⟨_, e, rfl⟩ PySem.F.entry_list_remove (PySem.F.args_list_remove_2 _ _)
    (SeqAt.list_removeAt l its.toArray n none #[] u (eqU y) j hj ?_ ?_ (by rw [List.size_toArray]; omega)) ⟨e, fun u' hu' => mem_eqAt ry fy rv fys u' (by simpa using hu'), ?_⟩
  · have e1 : its.toArray[j] = w := by simpa using hje
    rw [e1, eqU_of ru (flat_at fys hz)]
    exact hzj
  · intro m hm hmj
    have hml : m < its.length := by simpa using hm
    have hmy : m < ys.length := by omega
    have hy' : ys[m]? = some ys[m] := List.getElem?_eq_getElem hmy
    obtain ⟨u2, hu2, ru2⟩ := rv.get hy'
    obtain ⟨_, hme⟩ := List.getElem?_eq_some_iff.mp hu2
    have e1 : its.toArray[m] = u2 := by simpa using hme
    rw [e1, eqU_of ru2 (flat_at fys hy')]
    exact hno m _ hmj hy'
  · refine ⟨.non, _, I.lset (its' := its.eraseIdx j) (t' := s.toks) hH e ?_ (rv.eraseIdx j) ?_, rfl, q⟩
    · show its.toArray.eraseIdxIfInBounds j = (its.eraseIdx j).toArray
      rw [List.eraseIdxIfInBounds_toArray]
    · have := len_erase ys j
      omega
end
end L2

set_option Elab.async false
set_option linter.all false
set_option maxRecDepth 100000
set_option maxHeartbeats 4000000
/-! <= by an own __le__, + by an own __add__ (what stands to the right: an int, a bool, a text), the call of an instance by an own __call__; what is raised may be wished for -/
namespace PySem.W
open PySem PyProof.Rows
section
variable {prog : Program} {w : World} {A : Around} {E : Value → Shared → Prop} {s : Shared} {K : Frag} {x C L f : Addr} {h₀ : Heap} {m : Str → Option Value} {ox : Obj} {od : Option Obj}
theorem pyslot_K {M : Model} {h : Heap} {nm : String} (X : K.In h) (hs : findIn K (.ref C) (PySem.dunder nm) = some (some (.ref f))) (hr : findIn K (.ref C) (dunderR nm) = some none) : Looks M h (numberSlotInPython (.ref C) nm) true := by
  intro A Q E s k q
  unfold numberSlotInPython
  refine wpAny_bind ((looks_findIn X hs) A _ E s k ?_)
  refine wpAny_bind (wpAny_pure ?_)
  refine wpAny_bind ((looks_findIn X hr) A _ E s k ?_)
  refine wpAny_bind (wpAny_pure ?_)
  simp only [Bool.or_false, if_true]
  exact wpAny_pure q
theorem binop_KB {op : Operator} {b : Value} {T : String} {fT : Bool} {rT : Option Value} {Q : Value → Shared → Prop} (F : Fr h₀ L s.heap m) (X₀ : K.In h₀) (I : InstAt s.heap x ox C od) (hb : Looks (model prog w) s.heap (typeOf b) (.type T)) (hc : selfFirst K C = true)
    (hs : findIn K (.ref C) (PySem.dunder op.info.2) = some (some (.ref f))) (hr : findIn K (.ref C) (dunderR op.info.2) = some none) (hfT : fillsNumberSlot (.type T) op.info.2 = pure fT) (hsub : subIn K (.type T) (.ref C) = some false) (hrT : typeLookup (.type T) (dunderR op.info.2) = pure rT) (hf : isFn K (.ref f) = true)
    (h : wpAny (model prog w) A (call (.ref f) [.ref x, b]) (CmpBack Q) E s) : wpAny (model prog w) A (binaryOp op (.ref x) b) Q E s := by
  have X := X₀.keeps F.keep
  obtain ⟨cd, hcd, hm⟩ := any_some hc
  obtain ⟨rest, hm⟩ : ∃ rest, cd.mro = .ref C :: rest := by
    cases q : cd.mro with
    | nil => rw [q] at hm; cases hm
    | cons a r => rw [q] at hm; exact ⟨r, by rw [List.head?_cons] at hm; cases (beq_iff_eq.mp hm); rfl⟩
  unfold binaryOp
  refine wpAny_holding (wpAny_bind ?_)
  unfold binaryOp1
  refine wpAny_bind (I.type.here (wpAny_bind (hb.here (wpAny_bind ((fills_K X hcd hm hs).here ?_)))))
  have tail : wpAny (model prog w) A (tryMethod (.ref x) (PySem.dunder op.info.2) b) (fun r s' => ∃ v, r = some v ∧ Q v s') E s := by
    unfold tryMethod
    refine wpAny_bind (special_fn X I hs (beq_iff_eq.mp hf) (wpAny_mono h (fun v s' hv => ?_) fun _ _ e => e))
    cases v <;> first | exact hv.elim | exact wpAny_pure ⟨_, rfl, hv⟩
  simp only [show (Value.ref C == Value.type T) = false from rfl, Bool.false_eq_true, if_false]
  refine wpAny_bind (wpAny_of_eq hfT ?_)
  cases fT with
  | false =>
    simp only [Bool.and_false, Bool.false_eq_true, if_false, Bool.false_and]
    refine wpAny_bind (wpAny_pure ?_)
    simp only [Bool.false_eq_true, if_false, if_true]
    refine wpAny_bind (wpAny_mono tail (fun r s' z => ?_) fun _ _ e => e)
    obtain ⟨v, rfl, q⟩ := z
    exact wpAny_pure (wpAny_pure q)
  | true =>
    simp only [Bool.and_self, if_true]
    refine wpAny_bind ((looks_subIn X hsub).here ?_)
    simp only [Bool.false_eq_true, if_false, Bool.not_false, Bool.and_self, if_true]
    refine wpAny_bind ((pyslot_K X hs hr).here ?_)
    simp only [if_true]
    refine wpAny_bind (wpAny_of_eq (show numberSlotInPython (.type T) op.info.2 = pure false from rfl) ?_)
    simp only [Bool.not_false, if_true]
    refine wpAny_bind (wpAny_of_eq hrT ?_)
    refine wpAny_bind (wpAny_mono tail (fun r s' z => ?_) fun _ _ e => e)
    obtain ⟨v, rfl, q⟩ := z
    exact wpAny_pure (wpAny_pure q)
end
end PySem.W
namespace L2
open PySem PySem.Spec PyProof.Rows
section
variable {X : Cx} {CX : CXT} {k : Nat} {f C : Addr} {fd : FuncData} {ps : List Str} {sp : Sp} {E : St → XK}
/-- x <= y, x an instance of the class at C with an own __le__ that gives a bool -/
def rLeO (K : PySem.W.Frag) (C : Addr) (sp : Sp) : R2 := fun x y H Q => ∃ a dx fs t, x = .ref a ∧ H a = some (.ins C dx fs) ∧ TyX K H y t ∧ PySem.W.notFirst K C t = true ∧ sp [x, y] H (fun v H' => ∃ b, v = .bl b ∧ Q (.bl b) H') E0
theorem leO (O : OwnM X.prog X.w X.K X.mg X.base CX C "__le__" k ps sp) (hr : Room k X.A) (hx : Passes CX X E0) : OpR X (compareOp .LtE) (rLeO X.K C sp) := by
  obtain ⟨f, fd, F, M, hi, hb⟩ := O.ex
  intro pins s σ H x y v u Q I rx ry hq
  obtain ⟨a, dx, fs, t, rfl, ha, ty, hn, q⟩ := hq
  cases (show v = Value.ref a from rx)
  obtain ⟨P, Z, p, _⟩ := kit_of I ry ty
  obtain ⟨mA, J, _⟩ := ins_get I.hok ha
  obtain ⟨od, J, _⟩ := J.look
  obtain ⟨m, hF⟩ := I.fr
  show wpAny (model X.prog X.w) X.A (richCompare .LtE (.ref a) u) (EP X pins σ Q) X.xe s
  refine PySem.W.cmp_K (op := .LtE) (tb := t) hr.units0 hF I.ok.mod.kin J (Z.ty _ _ I.kIn p) hn M.at_ hi ?_
  refine wpAny_mono (run_at (vs := [.ref a, y]) F hr rfl hb hx I (.cons rfl (.cons ry .nil)) q) (fun v' s' z => ?_) fun _ _ e => e
  obtain ⟨w', H', I', rv, b, rfl, q'⟩ := z
  cases rv
  exact ⟨.bl b, H', I', rfl, q'⟩
/-- the built-in types that may stand to the right of an own + -/
def addTy (t : Value) : Prop := t = .type "int" ∨ t = .type "bool" ∨ t = .type "str"
structure AddM (K : PySem.W.Frag) (C : Addr) : Prop where
  self : PySem.W.selfFirst K C = true
  radd : PySem.W.findIn K (.ref C) "__radd__" = some none
  int : PySem.W.subIn K (.type "int") (.ref C) = some false
  bool : PySem.W.subIn K (.type "bool") (.ref C) = some false
  str : PySem.W.subIn K (.type "str") (.ref C) = some false
/-- x + y, x an instance of the class at C with an own __add__; what is raised is wished for -/
def tAddO (K : PySem.W.Frag) (C : Addr) (sp : Sp) (E : St → XK) (ta tb : TE) : TE := fun σ H Q => ta σ H fun x H1 => tb σ H1 fun y H2 => ∃ a dx fs t, x = .ref a ∧ H2 a = some (.ins C dx fs) ∧ TyX K H2 y t ∧ addTy t ∧ sp [x, y] H2 Q (E σ)
theorem pe_addO {W : WX} {a b : Expr} {ta tb : TE} {pos : Pos} (O : OwnM X.prog X.w X.K X.mg X.base (L2.CX X.prog X.w) C "__add__" k ps sp) (M' : AddM X.K C) (hr : Room k X.A) (tk : Takes X W) (ha : PE X a ta) (hb' : PE X b tb) : PE X (.BinOp a .Add b pos) (tAddO X.K C sp (WE W) ta tb) := by
  obtain ⟨f, fd, F, M, hi, hb⟩ := O.ex
  refine ⟨fun pins s σ H Q I h => ?_⟩
  refine wpAny_BinOp (binT ha hb' I h fun v u s2 x y H2 I2 rx ry q => ?_)
  obtain ⟨o, dx, fs, t, rfl, ho, ty, hty, q⟩ := q
  cases (show v = Value.ref o from rx)
  obtain ⟨P, Z, p, _⟩ := kit_of I2 ry ty
  obtain ⟨mA, J, _⟩ := ins_get I2.hok ho
  obtain ⟨od, J, _⟩ := J.look
  obtain ⟨m, hF⟩ := I2.fr
  have hcall := run_fnSD (us := [.ref o, u]) (vs := [.ref o, y]) F hr hb .nil (passAt tk σ) I2 (.cons rfl (.cons ry .nil)) (by exact q)
  have hcb : wpAny (model X.prog X.w) X.A (call (.ref f) [.ref o, u]) (PySem.W.CmpBack (EP X pins σ Q)) X.xe s2 := wpAny_mono hcall (fun w s' z => by
    obtain ⟨z', H', I', rz, qz⟩ := z
    exact SlX.cmpback rz ⟨z', H', I', rz, qz⟩) fun _ _ x => x
  rcases hty with rfl | rfl | rfl
  · exact PySem.W.binop_KB (op := .Add) (T := "int") (fT := true) (rT := some (.builtin "int.__radd__")) hF I2.ok.mod.kin J (Z.ty _ _ I2.kIn p) M'.self M.at_ M'.radd PySem.F.fills_int_add M'.int (by rw [typeLookup_type, builtinLookup_eq_fast]; kernel_rfl) hi hcb
  · exact PySem.W.binop_KB (op := .Add) (T := "bool") (fT := true) (rT := some (.builtin "int.__radd__")) hF I2.ok.mod.kin J (Z.ty _ _ I2.kIn p) M'.self M.at_ M'.radd PySem.F.fills_bool_add M'.bool (by rw [typeLookup_type, builtinLookup_eq_fast]; kernel_rfl) hi hcb
  · exact PySem.W.binop_KB (op := .Add) (T := "str") (fT := false) (rT := none) hF I2.ok.mod.kin J (Z.ty _ _ I2.kIn p) M'.self M.at_ M'.radd PySem.noFill_str_add M'.str (by rw [typeLookup_type, builtinLookup_eq_fast]; kernel_rfl) hi hcb
/-- f(e, ..), f an instance of the class at C with an own __call__; what is raised is wished for -/
def tCallOS (C : Addr) (sp : Sp) (E : St → XK) (tf : TE) (t : TA) : TE := fun σ H Q => tf σ H fun y H1 => ∃ a, y = V.ref a ∧ t σ H1 fun vs H2 => (∃ dx fs, H2 a = some (.ins C dx fs)) ∧ sp (V.ref a :: vs) H2 Q (E σ)
theorem pe_callOS {W : WX} {fe e : Expr} {es : List Expr} {tf : TE} {t : TA} {pos : Pos} (O : OwnM X.prog X.w X.K X.mg X.base (L2.CX X.prog X.w) C "__call__" k ps sp) (hn : ∀ g, PySem.W.findIn X.K (.ref C) "__call__" = some (some (.ref g)) → PySem.W.fnIn X.K g = true) (hf : PE X fe tf) (hr : Room k X.A) (tk : Takes X W) (ha : PA X (e :: es) t)
    (ht : eval (.Call fe (e :: es) [] pos) X.env = (do callWith pos (← eval fe X.env) [] (backTo pos (starEach (e :: es) X.env)) (backToKw pos (keywordEach [] X.env))) := by rfl)
    (he : starEach (e :: es) X.env = (false, eval e X.env) :: starEach es X.env := by rfl) (hpl : (backTo pos (starEach es X.env)).any (·.1) = false := by rfl) : PE X (.Call fe (e :: es) [] pos) (tCallOS C sp (WE W) tf t) := by
  obtain ⟨f, fd, F, M, hi, hb⟩ := O.ex
  refine ⟨fun pins s σ H Q I h => ?_⟩
  refine Call_ (thn (hf.run pins s σ H _ I h) fun u s1 ⟨y, H1, I1, ry, a, ey, q⟩ => ?_) ht
  subst ey
  obtain rfl : u = Value.ref a := ry
  refine StX.callO_with (thn (ha.run pos pins s1 σ H1 _ I1 q) fun us s2 ⟨vs, H2, I2, r, ⟨dx, fs, hz⟩, q2⟩ => ?_) he hpl
  obtain ⟨ox, od, J, hd⟩ := StX.insC_at I2 (.inr ⟨dx, fs, hz⟩ : StX.InsC X H2 a C)
  refine ⟨⟨C, ox, od, J, hd⟩, wpAny_call (PySem.W.kco_code I2.kIn J hd M.at_ hi (hn f M.at_) ?_)⟩
  have r2 : Vals (V.ref a :: vs) (Value.ref a :: us) := .cons rfl r
  have hl : (Value.ref a :: us).length = ps.length := by rw [← r2.length]; exact F.len _ _ _ _ q2
  refine codeAny_mono (F.run X.A X.stack s2 H2 ⟨Value.ref a :: us, []⟩ (Value.ref a :: us) (V.ref a :: vs) Q (WE W σ) hr I2.env0 (by have := hb s2 (Value.ref a :: us) I2.kIn (by simpa using hl); simpa using this) r2 q2) fun r s' hq => ?_
  cases r with
  | error e => exact passAt tk σ pins H2 s2 e s' I2 hq
  | ok fl =>
    cases fl with
    | ret u => exact I2.after hq
    | next => exact False.elim hq
    | brk => exact False.elim hq
    | cont => exact False.elim hq
end
end L2

set_option Elab.async false
set_option linter.all false
set_option maxRecDepth 100000
set_option maxHeartbeats 4000000
/-! a generator whose consumer may change things between its items: each stretch (from a wake to the next item) has a context of its own -/
namespace L2
open PySem PySem.Spec PyProof.Rows GenW
/-- the heap's first n places -/
def headH (h : Heap) (n : Nat) : Heap := ⟨h.objs.extract 0 n, h.life⟩
def headS (s : Shared) (n : Nat) : Shared := { s with heap := headH s.heap n }
theorem headH_size {h : Heap} {n : Nat} (hn : n ≤ h.objs.size) : (headH h n).objs.size = n := by
  show (h.objs.extract 0 n).size = n
  rw [Array.size_extract]; omega
theorem headH_get {h : Heap} {n b : Nat} (hb : b < n) : (headH h n).get? b = h.get? b := by
  have e : (headH h n).objs[b]? = h.objs[b]? := by
    show (h.objs.extract 0 n)[b]? = _
    rw [Array.getElem?_extract]
    by_cases hl : b < h.objs.size
    · rw [if_pos (by omega), Nat.zero_add]
    · rw [if_neg (by omega), Array.getElem?_eq_none (by omega)]
  unfold Heap.get?
  rw [e]
theorem headH_of {h : Heap} {n b : Nat} {o : Obj} (e : (headH h n).get? b = some o) : b < n ∧ h.get? b = some o := by
  have hb : b < n := by
    have q := Heap.lt_size e
    have z : (headH h n).objs.size ≤ n := by show (h.objs.extract 0 n).size ≤ n; rw [Array.size_extract]; omega
    exact Nat.lt_of_lt_of_le q z
  exact ⟨hb, by rw [← headH_get hb]; exact e⟩

/-- what a generator and its consumer have agreed on: cs: the consumer's state while the generator runs (what is out; heap); yd: what it wants of an item; kp: what it does to the heap until it asks again -/
structure Deal where
  cs : List V → Hp → Shared → Prop
  yd : List V → V → Hp → Prop
  kp : List V → V → Hp → Hp → Prop
  ad : List Addr := []
/-- the consumer's own places, made after the generator's: they stay while it runs -/
def AdOk (ad : List Addr) (n₀ : Nat) (outer : List Env) (H : Hp) (h : Heap) : Prop := ∀ b ∈ ad, n₀ < b ∧ H b = none ∧ b ∉ frs outer ∧ ∃ o, h.get? b = some o ∧ ∀ v, o.data ≠ .cell v
/-- the state in which it asks again -/
structure Wk (P : Program) (w : World) (base : Heap) (outer : List Env) (n₀ : Nat) (ad : List Addr) (H : Hp) (s : Shared) : Prop where
  bare : AllBare s.gens
  bs : ∀ b o, base.get? b = some o → s.heap.get? b = some o ∧ H b = none
  funs : s.heap.FunFrames base outer
  low : ∀ b ∈ frs outer, b < n₀ ∧ H b = none
  hok : HOk P w H s.heap
  sz : n₀ ≤ s.heap.objs.size
  ad : AdOk ad n₀ outer H s.heap
/-- a stretch's contexts -/
structure Fam (Fm : Cx → Prop) (n₀ : Nat) (X : Cx) : Prop where
  same : ∀ Z, Fm Z → Z = { X with s_0 := Z.s_0, H_0 := Z.H_0, xe := Z.xe }
  give : ∀ s H, s.heap.objs.size = n₀ → ∃ Z, Fm Z ∧ Z.s_0 = s ∧ Z.H_0 = H
  ex : X.ex = []
  bsz : X.base.objs.size ≤ n₀
  fn : ∀ Z, Fm Z → ∀ x, Z.fn x = true
  loc : X.env.locals = n₀
def Mine (X : Cx) (ip : List (Addr × Obj)) (b : Addr) : Prop := b = X.env.locals ∨ (∃ x, X.env.cells.lookup x = some b) ∨ ∃ p ∈ X.pn ++ ip, p.1 = b
section
variable {Fm : Cx → Prop} {n₀ : Nat} {X Z : Cx} {ip : List (Addr × Obj)} {σ : St} {H H2 : Hp} {s s2 : Shared}
theorem funFrames_cut {base h : Heap} {n : Nat} : ∀ {l : List Env}, h.FunFrames base l → (∀ b ∈ frs l, b < n) → (headH h n).FunFrames base l
  | [], _, _ => trivial
  | env :: l, hh, hl => by
    obtain ⟨hk, ⟨L, o, hf, hn, ho, hd⟩, hr⟩ := hh
    have hL : L < n := hl L (List.mem_filterMap.mpr ⟨env, List.mem_cons_self, hf⟩)
    refine ⟨hk, ⟨L, o, hf, hn, (headH_get hL).trans ho, hd⟩, funFrames_cut hr fun b hb => ?_⟩
    obtain ⟨e, he, q⟩ := List.mem_filterMap.mp hb
    exact hl b (List.mem_filterMap.mpr ⟨e, List.mem_cons_of_mem _ he, q⟩)
/-- the generator's state in the next stretch -/
theorem reseat {ad : List Addr} {h0 : Heap} (F : Fam Fm n₀ X) (hZ : Fm Z) (hz : Z.s_0.heap.objs.size = n₀) (I : Inv Z (pinsAt ad h0 ++ ip) σ H s) (w : Wk X.prog X.w X.base X.outer n₀ ad H2 s2)
    (mine : ∀ b, Mine Z ip b → ∀ o, s.heap.get? b = some o → s2.heap.get? b = some o ∧ H2 b = none) :
    ∃ Z', Fm Z' ∧ Z'.s_0 = headS s2 n₀ ∧ Z'.H_0 = H2 ∧ Inv Z' (pinsAt ad s2.heap ++ ip) σ H2 s2 := by
  obtain ⟨Z', hZ', e1, e2⟩ := F.give (headS s2 n₀) H2 (headH_size w.sz)
  refine ⟨Z', hZ', e1, e2, ?_⟩
  have q1 := F.same Z hZ
  have q2 := F.same Z' hZ'
  have hex : Z.ex = [] := by rw [q1]; exact F.ex
  have hex' : Z'.ex = [] := by rw [q2]; exact F.ex
  obtain ⟨ok, os, bare, base, ⟨m, hm, loc⟩, cell, free, freeC, pin, hok, len⟩ := I
  have a1 : Z.env = X.env := by rw [q1]
  have a2 : Z'.env = X.env := by rw [q2]
  have a3 : Z.N = X.N := by rw [q1]
  have a4 : Z'.N = X.N := by rw [q2]
  have a5 : Z.pn = X.pn := by rw [q1]
  have a6 : Z'.pn = X.pn := by rw [q2]
  have a7 : Z.outer = X.outer := by rw [q1]
  have a8 : Z'.outer = X.outer := by rw [q2]
  have a9 : Z'.base = X.base := by rw [q2]
  have b1 : Z'.prog = X.prog := by rw [q2]
  have b2 : Z'.w = X.w := by rw [q2]
  have hL : ∀ o, s.heap.get? X.env.locals = some o → s2.heap.get? X.env.locals = some o ∧ H2 X.env.locals = none := fun o e => mine _ (.inl (by rw [a1])) o e
  have hC : ∀ x c, X.env.cells.lookup x = some c → ∀ o, s.heap.get? c = some o → s2.heap.get? c = some o ∧ H2 c = none := fun x c h o e => mine _ (.inr (.inl ⟨x, by rw [a1]; exact h⟩)) o e
  rw [a1] at hm loc cell free freeC pin
  rw [a3] at loc len
  have ok' : Z'.Ok := by
    obtain ⟨mod, kind, glob, blt, above, inj, has, cab, hd, frames, stk, exf, bs, bsz, noex, exfs, funs, frf⟩ := ok
    rw [q1] at mod kind glob blt above inj has cab hd frames stk
    rw [q2]
    refine ⟨mod, kind, glob, blt, ?_, inj, has, fun x c h1 h2 => ?_, hd, frames, stk, ?_, ?_, ?_, ?_, ?_, ?_, ?_⟩
    · show Z'.s_0.heap.objs.size ≤ _
      rw [e1]; show (headH s2.heap n₀).objs.size ≤ _
      rw [headH_size w.sz, ← hz]; exact above
    · show Z'.s_0.heap.objs.size ≤ _
      rw [e1]; show (headH s2.heap n₀).objs.size ≤ _
      rw [headH_size w.sz, ← hz]; exact cab x c h1 h2
    · intro b hb; have hb : b ∈ X.ex := hb; rw [F.ex] at hb; cases hb
    · intro b o e
      show Z'.s_0.heap.get? b = some o ∧ Z'.H_0 b = none
      rw [e1, e2]
      have hl : b < n₀ := Nat.lt_of_lt_of_le (Heap.lt_size e) F.bsz
      obtain ⟨r1, r2⟩ := w.bs b o e
      exact ⟨(headH_get hl).trans r1, r2⟩
    · show X.base.objs.size ≤ Z'.s_0.heap.objs.size
      rw [e1]; show _ ≤ (headH s2.heap n₀).objs.size
      rw [headH_size w.sz]; exact F.bsz
    · intro b o _ hb; have hb : b ∈ X.ex := hb; rw [F.ex] at hb; cases hb
    · intro b hb; have hb : b ∈ X.ex := hb; rw [F.ex] at hb; cases hb
    · show Z'.s_0.heap.FunFrames X.base X.outer
      rw [e1]
      exact funFrames_cut w.funs fun b hb => (w.low b hb).1
    · intro b hb
      show Z'.H_0 b = none
      rw [e2]; exact (w.low b hb).2
  refine ⟨ok', by rw [e1]; rfl, w.bare, ?_, ⟨m, ?_, ?_⟩, ?_, ?_, ?_, ?_, by rw [b1, b2]; exact w.hok, by rw [a4]; exact len⟩
  · rw [e1, e2]
    exact Un.kept fun b o e => (headH_of e).2
  · rw [a2]
    obtain ⟨o, es, ep, ho, r⟩ := hm
    exact ⟨o, es, ep, (hL o ho).1, r⟩
  · rw [a2, a4]
    intro i x v h1 h2 h3
    obtain ⟨u, r, l⟩ := loc i x v h1 h2 h3
    refine ⟨u, r, ?_⟩
    rcases l with l | ⟨k, c, e, o, ho, hd⟩
    · exact .inl l
    · exact .inr ⟨k, c, e, o, (hC x c e o ho).1, hd⟩
  · rw [a2]
    intro x c e
    obtain ⟨v, o, ho, hd⟩ := cell x c e
    exact ⟨v, o, (hC x c e o ho).1, hd⟩
  · rw [a2]
    obtain ⟨o, es, ep, ho, r⟩ := hm
    exact (hL o ho).2
  · rw [a2]
    intro x c e
    obtain ⟨v, o, ho, hd⟩ := cell x c e
    exact (hC x c e o ho).2
  · rw [a2, a6]
    intro p hp
    rcases List.mem_append.mp hp with hp | hp
    · have hp' : p ∈ Z.pn ++ (pinsAt ad h0 ++ ip) := by rw [a5]; exact List.mem_append_left _ hp
      obtain ⟨r1, r2, r3, r4, r5⟩ := pin p hp'
      obtain ⟨t1, t2⟩ := mine p.1 (.inr (.inr ⟨p, by rw [a5]; exact List.mem_append_left _ hp, rfl⟩)) p.2 r1
      refine ⟨t1, t2, r3, ?_, r5⟩
      show p.1 ∉ frs Z'.outer
      rw [a8, ← a7]; exact r4
    rcases List.mem_append.mp hp with hp | hp
    · obtain ⟨hb, e⟩ := of_pinsAt hp
      obtain ⟨w1, w2, w3, o, w4, w5⟩ := w.ad p.1 hb
      rw [e] at w4
      cases w4
      refine ⟨e, w2, ?_, ?_, w5⟩
      · rw [F.loc]; exact Nat.ne_of_gt w1
      · show p.1 ∉ frs Z'.outer
        rw [a8]; exact w3
    · have hp' : p ∈ Z.pn ++ (pinsAt ad h0 ++ ip) := List.mem_append_right _ (List.mem_append_right _ hp)
      obtain ⟨r1, r2, r3, r4, r5⟩ := pin p hp'
      obtain ⟨t1, t2⟩ := mine p.1 (.inr (.inr ⟨p, List.mem_append_right _ hp, rfl⟩)) p.2 r1
      refine ⟨t1, t2, r3, ?_, r5⟩
      show p.1 ∉ frs Z'.outer
      rw [a8, ← a7]; exact r4
end
end L2

set_option Elab.async false
set_option linter.all false
set_option maxRecDepth 100000
set_option maxHeartbeats 4000000
/-! the statements of such a generator -/
namespace L2
open PySem PySem.Spec PyProof.Rows GenW
/-- where a stretch sits -/
structure Seat (Fm : Cx → Prop) (n₀ : Nat) (Dl : Deal) (ys : List V) (s₀ : Shared) (Z : Cx) : Prop where
  fm : Fm Z
  at0 : Z.s_0 = headS s₀ n₀
  cs : Dl.cs ys Z.H_0 s₀
  sz : n₀ ≤ s₀.heap.objs.size
  ad : ∀ b ∈ Dl.ad, ∃ o, s₀.heap.get? b = some o
/-- the consumer's own things at the last wake -/
abbrev Deal.cp (Dl : Deal) (s₀ : Shared) : List (Addr × Obj) := pinsAt Dl.ad s₀.heap
theorem Seat.size {Fm : Cx → Prop} {n₀ : Nat} {Dl : Deal} {ys : List V} {s₀ : Shared} {Z : Cx} (t : Seat Fm n₀ Dl ys s₀ Z) : Z.s_0.heap.objs.size = n₀ := by
  rw [t.at0]; exact headH_size t.sz
/-- an item is handed out; then asked again -/
def GY3 (P : Program) (w : World) (base : Heap) (outer : List Env) (pn : List (Addr × Obj)) (n₀ : Nat) (Dl : Deal) : Protocol := fun n s₀ v s kap =>
  ∃ (ys : List V) (x : V) (HE H1 : Hp) (mine : Addr → Prop), n + 1 + ys.length = sizeLine ∧ RelV x v ∧ Dl.cs ys HE s₀ ∧ n₀ ≤ s₀.heap.objs.size ∧ Un (frs outer) [] HE H1 (headH s₀.heap n₀) s.heap ∧ s.os = s₀.os ∧ AllBare s.gens ∧ HOk P w H1 s.heap ∧
    (∀ p ∈ pn, s.heap.get? p.1 = some p.2 ∧ H1 p.1 = none) ∧ n₀ ≤ s.heap.objs.size ∧ (∀ p ∈ Dl.cp s₀, s.heap.get? p.1 = some p.2 ∧ H1 p.1 = none) ∧ Dl.yd ys x H1 ∧ (∀ b, mine b → H1 b = none ∧ b ∉ frs outer ∧ ∃ o, s.heap.get? b = some o) ∧ (∀ b, mine b → b ∉ Dl.ad) ∧
    ∀ H2 s2, Wk P w base outer n₀ Dl.ad H2 s2 → Dl.cs (ys ++ [x]) H2 s2 → (∀ b, mine b → ∀ o, s.heap.get? b = some o → s2.heap.get? b = some o ∧ H2 b = none) → Dl.kp ys x H1 H2 → kap (.send .none) s2
/-- where its code stands -/
structure GC3 (X : Cx) (A : Around) (c : Code) (fs : List Frame) (gd : Bool → Bool) : Prop where
  over : A.over c fs = X.A
  split : splitAtGen fs = none
  guard : fs.any Frame.guarded = false
  gd : gd false = false
section
variable (Fm : Cx → Prop) (n₀ : Nat) (X : Cx) (Dl : Deal)
abbrev Cx.Y3 : Protocol := GY3 X.prog X.w X.base X.outer X.pn n₀ Dl
/-- what follows -/
structure GK3 (ip : List (Addr × Obj)) (A : Around) (R : GenEnd) (c : Code) (fs : List Frame) (K : Flow → Sem PySem.Fin) (J : Value → Sem PySem.Fin) (D : GEnds) : Prop where
  ok : ∀ (n : Nat) (ys : List V) (s₀ s : Shared) (f : Flow) (Z : Cx), Seat Fm n₀ Dl ys s₀ Z → n + ys.length = sizeLine → SP Z (Dl.cp s₀ ++ ip) (D.at ys) f s → Seg (model X.prog X.w) A R (X.Y3 n₀ Dl) n s₀ c (K f) fs s
  exc : ∀ (n : Nat) (ys : List V) (s₀ : Shared) (e : Value) (s : Shared) (Z : Cx), Seat Fm n₀ Dl ys s₀ Z → Z.xe e s → Seg (model X.prog X.w) A R (X.Y3 n₀ Dl) n s₀ c (J e) fs s
/-- whatever follows, from this tree -/
def GRun (m : Sem Flow) (t : TGn) : Prop :=
  ∀ (A : Around) (ip : List (Addr × Obj)) (R : GenEnd) (n : Nat) (ys : List V) (s₀ : Shared) (c : Code) (fs : List Frame) (K : Flow → Sem PySem.Fin) (J : Value → Sem PySem.Fin) (gd : Bool → Bool) (lv : List Value → List Value) (s : Shared) (σ : St) (H : Hp) (D : GEnds) (Z : Cx),
    (∀ p ∈ X.pn ++ ip, p.1 ∉ Dl.ad) → Seat Fm n₀ Dl ys s₀ Z → GC3 X A c fs gd → n + ys.length = sizeLine → GK3 Fm n₀ X Dl ip A R c fs K J D → Inv Z (Dl.cp s₀ ++ ip) σ H s → t D ys σ H → Seg (model X.prog X.w) A R (X.Y3 n₀ Dl) n s₀ c (m.wrap K J gd lv) fs s
structure GQ (st : Stmt) (t : TGn) : Prop where
  run : GRun Fm n₀ X Dl (exec st X.env) t
structure GQs (st : List Stmt) (t : TGn) : Prop where
  run : GRun Fm n₀ X Dl (execs st X.env) t
end
section
variable {Fm : Cx → Prop} {n₀ : Nat} {X : Cx} {Dl : Deal} {st : Stmt} {rest : List Stmt}
theorem Fam.env (F : Fam Fm n₀ X) {Z : Cx} (h : Fm Z) : Z.env = X.env ∧ Z.A = X.A ∧ Z.prog = X.prog ∧ Z.w = X.w ∧ Z.outer = X.outer ∧ Z.pn = X.pn ∧ Z.base = X.base ∧ Z.ex = X.ex ∧ Z.K = X.K ∧ Z.calm = X.calm := by
  have q := F.same Z h
  refine ⟨?_, ?_, ?_, ?_, ?_, ?_, ?_, ?_, ?_, ?_⟩ <;> rw [q]
/-- a statement that hands out nothing -/
theorem gq_ps (F : Fam Fm n₀ X) {t : TS} (h : ∀ Z, Fm Z → PS Z st t) : GQ Fm n₀ X Dl st (tPlain t) := by
  refine ⟨fun A ip R n ys s₀ c fs K J gd lv s σ H D Z hip z g hn k I ht => seg_wrap ?_⟩
  obtain ⟨e1, e2, e3, e4, _⟩ := F.env z.fm
  have q := (h Z z.fm).run (Dl.cp s₀ ++ ip) s σ H (D.at ys) I ht
  rw [e1, e2, e3, e4] at q
  rw [g.over]
  exact wpAny_mono q (fun f s' hs => k.ok n ys s₀ s' f Z z hn hs) fun x s' hx => k.exc n ys s₀ x s' Z z hx
theorem gqs_pss (F : Fam Fm n₀ X) {t : TS} (h : ∀ Z, Fm Z → PSs Z rest t) : GQs Fm n₀ X Dl rest (tPlain t) := by
  refine ⟨fun A ip R n ys s₀ c fs K J gd lv s σ H D Z hip z g hn k I ht => seg_wrap ?_⟩
  obtain ⟨e1, e2, e3, e4, _⟩ := F.env z.fm
  have q := (h Z z.fm).run (Dl.cp s₀ ++ ip) s σ H (D.at ys) I ht
  rw [e1, e2, e3, e4] at q
  rw [g.over]
  exact wpAny_mono q (fun f s' hs => k.ok n ys s₀ s' f Z z hn hs) fun x s' hx => k.exc n ys s₀ x s' Z z hx
theorem gqs_nil : GQs Fm n₀ X Dl [] tG0 :=
  ⟨fun A ip R n ys s₀ c fs K J gd lv s σ H D Z hip z g hn k I ht => seg_execs_nil (k.ok n ys s₀ s .next Z z hn ⟨σ, H, I, ht⟩)⟩
theorem gqs_cons {t u : TGn} (a : GQ Fm n₀ X Dl st t) (b : GQs Fm n₀ X Dl rest u) : GQs Fm n₀ X Dl (st :: rest) (tGThen t u) := by
  refine ⟨fun A ip R n ys s₀ c fs K J gd lv s σ H D Z hip z g hn k I ht => seg_execs_cons ?_⟩
  refine a.run A ip R n ys s₀ c fs _ J gd lv s σ H { D with nx := fun ys' σ' H' => u D ys' σ' H' } Z hip z g hn ⟨fun n' ys' s₀' s' f Z' z' hn' hs => ?_, k.exc⟩ I ht
  cases f with
  | next =>
    obtain ⟨σ', H', I', q⟩ := hs
    exact b.run A ip R n' ys' s₀' c fs K J gd lv s' σ' H' D Z' hip z' g hn' k I' q
  | brk => exact k.ok n' ys' s₀' s' .brk Z' z' hn' hs
  | cont => exact k.ok n' ys' s₀' s' .cont Z' z' hn' hs
  | ret u => exact k.ok n' ys' s₀' s' (.ret u) Z' z' hn' hs
theorem gq_if (F : Fam Fm n₀ X) {test : Expr} {body orelse : List Stmt} {pos : Pos} {tc : TT} {t u : TGn} (hc : ∀ Z, Fm Z → PT Z test tc) (hb : GQs Fm n₀ X Dl body t) (ho : GQs Fm n₀ X Dl orelse u) : GQ Fm n₀ X Dl (.If test body orelse pos) (tGIf tc t u) := by
  refine ⟨fun A ip R n ys s₀ c fs K J gd lv s σ H D Z hip z g hn k I ht => gseg_if ?_⟩
  obtain ⟨e1, e2, e3, e4, _⟩ := F.env z.fm
  have q := (hc Z z.fm).run (Dl.cp s₀ ++ ip) s σ H _ I ht
  rw [e1, e2, e3, e4] at q
  rw [g.over]
  refine wpAny_mono q (fun b s' hb' => ?_) fun x s' hx => k.exc n ys s₀ x s' Z z hx
  obtain ⟨H2, I2, q2⟩ := hb'
  cases b with
  | true => exact hb.run A ip R n ys s₀ c fs K J gd lv s' σ H2 D Z hip z g hn k I2 q2
  | false => exact ho.run A ip R n ys s₀ c fs K J gd lv s' σ H2 D Z hip z g hn k I2 q2
/-! ### yield -/
def tYield3 (Dl : Deal) (te : TE) : TGn := fun D ys σ H => ys.length < sizeLine ∧ te σ H fun x H1 => Dl.yd ys x H1 ∧ ∀ H2, Dl.kp ys x H1 H2 → D.nx (ys ++ [x]) σ H2
theorem gq_yield (F : Fam Fm n₀ X) {e : Expr} {yp pos : Pos} {te : TE} (he : ∀ Z, Fm Z → PE Z e te) (hco : X.env.scope.isCoroutine = false := by rfl) (hi : interactive X.env = false := by rfl) : GQ Fm n₀ X Dl (.Expr (.Yield (some e) yp) pos) (tYield3 Dl te) := by
  refine ⟨fun A ip R n ys s₀ c fs K J gd lv s σ H D Z hip z g hn k I ht => ?_⟩
  obtain ⟨hlt, ht⟩ := ht
  obtain ⟨n, rfl⟩ : ∃ m, n = m + 1 := ⟨n - 1, by omega⟩
  obtain ⟨e1, e2, e3, e4, e5, e6, _⟩ := F.env z.fm
  have q := (he Z z.fm).run (Dl.cp s₀ ++ ip) s σ H _ I ht
  rw [e1, e2, e3, e4] at q
  refine seg_Expr_Yield g.split g.gd g.guard ?_ hco hi
  rw [g.over]
  refine wpAny_mono q (fun v s' hv => ?_) fun x s' hx => k.exc _ ys s₀ x s' Z z hx
  obtain ⟨x, H1, I1, rv, yd, cont⟩ := hv
  intro kap hk
  have hb := I1.base
  have hfs : Z.fs = frs X.outer := by show frs Z.outer = _; rw [e5]
  have hex : Z.ex = [] := by rw [F.same Z z.fm]; exact F.ex
  rw [hfs, hex, z.at0] at hb
  refine ⟨ys, x, Z.H_0, H1, Mine Z ip, hn, rv, z.cs, z.sz, hb, by rw [I1.os, z.at0]; rfl, I1.bare, by rw [← e3, ← e4]; exact I1.hok, fun p hp => let ⟨r1, r2, _⟩ := I1.pin p (List.mem_append_left _ (by rw [e6]; exact hp)); ⟨r1, r2⟩, ?_, fun p hp => let ⟨r1, r2, _⟩ := I1.pin p (List.mem_append_right _ (List.mem_append_left _ hp)); ⟨r1, r2⟩, yd, fun b mb => ?_, fun b mb hb => ?_, fun H2 s2 wk cs2 mk kp => ?_⟩
  · have q := I1.sz
    rw [z.size] at q
    exact q
  · rw [← hfs]
    rcases mb with rfl | ⟨y, hy⟩ | ⟨p, hp, rfl⟩
    · obtain ⟨m, ⟨o, _, _, ho, _⟩, _⟩ := I1.loc
      refine ⟨I1.free, fun hm => ?_, o, ho⟩
      obtain ⟨_, o', ho', _⟩ := I1.ok.funs.mem hm
      exact absurd (Nat.lt_of_lt_of_le (Heap.lt_size ho') I1.ok.above) (Nat.lt_irrefl _)
    · obtain ⟨v, o, ho, _⟩ := I1.cell y b hy
      refine ⟨I1.freeC y b hy, fun hm => ?_, o, ho⟩
      obtain ⟨_, o', ho', hd'⟩ := I1.funs.mem hm
      have hfn : Z.fn y = true ∨ Z.fn y = false := by cases Z.fn y <;> simp
      rcases hfn with hf | hf
      · obtain ⟨_, o2, ho2, _⟩ := I1.ok.funs.mem hm
        exact absurd (Nat.lt_of_lt_of_le (Heap.lt_size ho2) (I1.ok.cab y b hf hy)) (Nat.lt_irrefl _)
      · exact absurd hf (by rw [F.fn Z z.fm y]; exact Bool.noConfusion)
    · obtain ⟨r1, r2, r3, r4, _⟩ := I1.pin p ((List.mem_append.mp hp).elim (List.mem_append_left _) fun h => List.mem_append_right _ (List.mem_append_right _ h))
      exact ⟨r2, r4, p.2, r1⟩
  · obtain ⟨o, ho⟩ := z.ad b hb
    obtain ⟨p1, _, p3, _, p5⟩ := I1.pin (b, o) (List.mem_append_right _ (List.mem_append_left _ (mem_pinsAt hb ho)))
    rcases mb with mb | ⟨y, hy⟩ | ⟨p, hp, rfl⟩
    · exact p3 mb
    · obtain ⟨v, o2, ho2, hd2⟩ := I1.cell y b hy
      rw [p1] at ho2
      cases ho2
      exact p5 _ hd2
    · exact hip p (by rw [← e6]; exact hp) hb
  · obtain ⟨Z', f1, f2, f3, I2⟩ := reseat F z.fm z.size I1 wk mk
    refine hk .none s2 (k.ok n (ys ++ [x]) s2 s2 .next Z' ⟨f1, f2, by rw [f3]; exact cs2, wk.sz, fun b hb => let ⟨_, _, _, o, e, _⟩ := wk.ad b hb; ⟨o, e⟩⟩ ?_ ⟨σ, H2, I2, cont H2 kp⟩)
    rw [List.length_append, List.length_singleton]; omega
end
end L2

set_option Elab.async false
set_option linter.all false
set_option maxRecDepth 100000
set_option maxHeartbeats 4000000
/-! its loops -/
namespace L2
open PySem PySem.Spec PyProof.Rows GenW
section
variable {Fm : Cx → Prop} {n₀ : Nat} {X : Cx} {Dl : Deal}
theorem GC3.loop {A : Around} {c c' : Code} {fs : List Frame} {gd : Bool → Bool} {k : Result → Sem PySem.Fin} {l kp : List Value} {p : Pos} (g : GC3 X A c fs gd) (hw : c'.weight = 0) (hu : c'.cUnits = 0) : GC3 X A c' (.ret k none (gd false) l c p kp :: fs) id := by
  refine ⟨(over_loop hw hu).trans g.over, ?_, ?_, rfl⟩
  · show Option.map _ (splitAtGen fs) = none
    rw [g.split]; rfl
  · show (gd false || List.any fs Frame.guarded) = false
    rw [g.gd, g.guard]; rfl
/-- what the loop's call goes on to -/
abbrev backK (env : Env) (K : Flow → Sem PySem.Fin) (J : Value → Sem PySem.Fin) (gd : Bool → Bool) (lv : List Value → List Value) : Result → Sem PySem.Fin := fun r => ((match r with | .ok f => (.pure f : Sem Flow) | .error e => .raise e).onRaise (cameBack env)).wrap K J gd lv
/-- an exception that leaves the loop's code -/
theorem mark3 {A : Around} {ip : List (Addr × Obj)} {R : GenEnd} {c c' : Code} {fs : List Frame} {K : Flow → Sem PySem.Fin} {J : Value → Sem PySem.Fin} {gd : Bool → Bool} {lv : List Value → List Value} {D : GEnds} {p : Pos} {Z : Cx} {n : Nat} {ys : List V} {s₀ s : Shared} {x : Value}
    (F : Fam Fm n₀ X) (z : Seat Fm n₀ Dl ys s₀ Z) (hp : PassesOwn (model X.prog X.w) X.A X.env Z.xe) (g : GC3 X A c fs gd) (k : GK3 Fm n₀ X Dl ip A R c fs K J D) (hw : c'.weight = 0) (hu : c'.cUnits = 0) (hx : Z.xe x s) :
    Seg (model X.prog X.w) A R (X.Y3 n₀ Dl) n s₀ c' (marked X.env x) (.ret (backK X.env K J gd lv) none (gd false) (lv []) c p [] :: fs) s := by
  have out : ∀ (y : Value) (s' : Shared), cameBackBy (model X.prog X.w) X.A X.env Z.xe y s' → Seg (model X.prog X.w) A R (X.Y3 n₀ Dl) n s₀ c (backK X.env K J gd lv (.error y)) fs s' := fun y s' h => by
    show Seg _ _ _ _ _ _ _ (((cameBack X.env y).bind fun _ => (Sem.raise y : Sem Flow)).wrap K J gd lv) _ _
    rw [Sem.bind_eq_wrap, Sem.wrap_wrap]
    refine seg_wrap ?_
    rw [g.over]
    exact wpAny_mono h (fun _ s2 hx => k.exc n ys s₀ y s2 Z z hx) fun u s2 hx => k.exc n ys s₀ u s2 Z z hx
  unfold marked
  rw [Sem.bind_eq_wrap]
  refine seg_wrap ?_
  rw [(g.loop (k := backK X.env K J gd lv) (l := lv []) (kp := []) (p := p) hw hu).over]
  exact wpAny_bind (wpAny_mono (hp x s hx) (fun _ s2 h => wpAny_theTreesLotGoes (seg_leaf (.error x) (out x s2 h))) fun y s2 h => seg_leaf (.error y) (out y s2 h))
theorem gq_while (F : Fam Fm n₀ X) {test : Expr} {body : List Stmt} {pos : Pos} {tc : TT} {tb : TGn} (hp : ∀ Z, Fm Z → PassesOwn (model X.prog X.w) X.A X.env Z.xe) (hc : ∀ Z, Fm Z → PT Z test tc) (hb : GQs Fm n₀ X Dl body tb) : GQ Fm n₀ X Dl (.While test body [] pos) (tGWhile tc tb) := by
  refine ⟨fun A ip R n ys s₀ c fs K J gd lv s σ H D Z hip z g hn k I ⟨W, ⟨m0, w0⟩, turn⟩ => seg_While fun p => ?_⟩
  have go : ∀ (m n : Nat) (ys : List V) (s₀ s : Shared) (σ : St) (H : Hp) (Z : Cx), Seat Fm n₀ Dl ys s₀ Z → n + ys.length = sizeLine → W m ys σ H → Inv Z (Dl.cp s₀ ++ ip) σ H s →
      Seg (model X.prog X.w) A R (X.Y3 n₀ Dl) n s₀ (.whileLoop test body [] X.env) ((model X.prog X.w).den (.whileLoop test body [] X.env)) (.ret (backK X.env K J gd lv) none (gd false) (lv []) c p [] :: fs) s := by
    intro m
    induction m using Nat.strongRecOn with
    | ind m ih =>
      intro n ys s₀ s σ H Z z hn w I
      obtain ⟨e1, e2, e3, e4, _⟩ := F.env z.fm
      have gl := g.loop (k := backK X.env K J gd lv) (l := lv []) (kp := []) (p := p) (c' := .whileLoop test body [] X.env) rfl rfl
      have em : ∀ (x : Value) (env : Env), ((do noteFrame x env; theTreesLotGoes x : Sem Unit).wrap (fun _ => (.raise x : Sem PySem.Fin)) .raise id id) = marked env x := fun x env => by unfold marked; rw [Sem.bind_eq_wrap]
      refine seg_whileLoop ?_
      rw [gl.over]
      have q := (hc Z z.fm).run (Dl.cp s₀ ++ ip) s σ H _ I (turn m ys σ H w)
      rw [e1, e2, e3, e4] at q
      refine wpAny_mono q (fun b s' hb' => ?_) fun x s' hx => by rw [em]; exact mark3 F z (hp Z z.fm) g k rfl rfl hx
      obtain ⟨H2, I2, q2⟩ := hb'
      cases b with
      | false =>
        rw [if_neg Bool.false_ne_true]
        exact seg_execs_nil (seg_leaf (.ok .next) (k.ok n ys s₀ s' .next Z z hn ⟨σ, H2, I2, q2⟩))
      | true =>
        obtain ⟨N, hN, q2⟩ := q2
        rw [if_pos rfl]
        refine hb.run A ip R n ys s₀ _ _ _ _ id id s' σ H2 { D with nx := N, ct := N, bk := D.nx } Z hip z gl hn ⟨fun n' ys' s₀' s3 f Z' z' hn' hs => ?_, fun n' ys' s₀' x s3 Z' z' hx => by rw [em]; exact mark3 F z' (hp Z' z'.fm) g k rfl rfl hx⟩ I2 q2
        cases f with
        | brk => exact seg_leaf (.ok .next) (k.ok n' ys' s₀' s3 .next Z' z' hn' hs)
        | ret v => exact seg_leaf (.ok (.ret v)) (k.ok n' ys' s₀' s3 (.ret v) Z' z' hn' hs)
        | next =>
          obtain ⟨σ3, H3, I3, n3⟩ := hs
          obtain ⟨m', hm, w3⟩ := hN ys' σ3 H3 n3
          exact seg_again rfl (ih m' hm n' ys' s₀' s3 σ3 H3 Z' z' hn' w3 I3)
        | cont =>
          obtain ⟨σ3, H3, I3, n3⟩ := hs
          obtain ⟨m', hm, w3⟩ := hN ys' σ3 H3 n3
          exact seg_again rfl (ih m' hm n' ys' s₀' s3 σ3 H3 Z' z' hn' w3 I3)
  exact go m0 n ys s₀ s σ H Z z hn w0 I
theorem gq_for (F : Fam Fm n₀ X) {tg iter : Expr} {body : List Stmt} {pos : Pos} {wi : TI} {gt : TG} {tb : TGn} (hp : ∀ Z, Fm Z → PassesOwn (model X.prog X.w) X.A X.env Z.xe) (hcm : X.calm = true) (hi : ∀ Z, Fm Z → PI Z tg iter wi) (hg : ∀ Z, Fm Z → PG Z tg gt) (hb : GQs Fm n₀ X Dl body tb)
    (hs : ∀ x, foldedSetIterable iter X.env x = pure x := by intro _; rfl) : GQ Fm n₀ X Dl (.For tg iter body [] pos) (tGFor wi gt tb) := by
  refine ⟨fun A ip R n ys s₀ c fs K J gd lv s σ H D Z hip z g hn k I ht => gseg_for hs ?_⟩
  obtain ⟨e1, e2, e3, e4, e5, e6, e7, e8, e9, e10⟩ := F.env z.fm
  have q := (hi Z z.fm).run (Dl.cp s₀ ++ ip) s σ H _ I ht
  rw [e1, e2, e3, e4] at q
  rw [g.over]
  refine wpAny_mono q (fun v s1 h1 => wpAny_mono h1 (fun itv s2 h2 p => ?_) fun x s' hx => k.exc n ys s₀ x s' Z z hx) fun x s' hx => k.exc n ys s₀ x s' Z z hx
  obtain ⟨it, fp, tn, Jt, H2, rfl, I2, T, st2, f2, W, ⟨m0, w0⟩, turn⟩ := h2
  rw [e3, e4, e9] at T
  have loop : ∀ (m n i : Nat) (ys : List V) (s₀ s : Shared) (σ : St) (H : Hp) (Z : Cx), Seat Fm n₀ Dl ys s₀ Z → n + ys.length = sizeLine → W i m ys σ H → tn i s.heap → (∀ b ∈ fp, FpOk Z (Dl.cp s₀ ++ ip) H b) → Inv Z (Dl.cp s₀ ++ ip) σ H s →
      Seg (model X.prog X.w) A R (X.Y3 n₀ Dl) n s₀ (.forLoop tg (.ref it) body [] X.env) ((model X.prog X.w).den (.forLoop tg (.ref it) body [] X.env)) (.ret (backK X.env K J gd lv) none (gd false) (lv []) c p [] :: fs) s := by
    intro m
    induction m using Nat.strongRecOn with
    | ind m ih =>
      intro n i ys s₀ s σ3 H3 Z z hn w3 st3 fr3 I3
      obtain ⟨e1, e2, e3, e4, e5, e6, e7, e8, e9, e10⟩ := F.env z.fm
      have gl := g.loop (k := backK X.env K J gd lv) (l := lv []) (kp := []) (p := p) (c' := .forLoop tg (.ref it) body [] X.env) rfl rfl
      have gb := g.loop (k := backK X.env K J gd lv) (l := lv []) (kp := []) (p := p) (c' := .block [] X.env) rfl rfl
      have ee : ∀ (n : Nat) (ys : List V) (s₀ : Shared) (x : Value) (s' : Shared) (Z : Cx), Seat Fm n₀ Dl ys s₀ Z → Z.xe x s' → Seg (model X.prog X.w) A R (X.Y3 n₀ Dl) n s₀ (.forLoop tg (.ref it) body [] X.env) (marked X.env x) (.ret (backK X.env K J gd lv) none (gd false) (lv []) c p [] :: fs) s' :=
        fun n ys s₀ x s' Z z hx => mark3 F z (hp Z z.fm) g k rfl rfl hx
      refine gseg_turn ?_
      rw [gl.over]
      have cz : Z.calm = true := e10.trans hcm
      rcases turn i m ys σ3 H3 w3 with ⟨stop, qn⟩ | ⟨go, N, hN, step⟩
      · have q := T.done Z e3 e4 e9 cz i (Dl.cp s₀ ++ ip) s σ3 H3 Z.xe I3 fr3 st3 stop
        rw [e2] at q
        refine wpAny_mono q (fun r s4 hr => ?_) fun x s' hx => ee n ys s₀ x s' Z z hx
        obtain ⟨rfl, I4⟩ := hr
        refine seg_again rfl ?_
        show Seg _ A R _ n s₀ _ (((execs [] X.env).onRaise (fun x => do noteFrame x X.env; theTreesLotGoes x)) >>= fun f => (.pure (.done f) : Sem PySem.Fin)) _ s4
        exact seg_leaf (.ok .next) (k.ok n ys s₀ s4 .next Z z hn ⟨σ3, H3, I4, qn⟩)
      · have q := T.item Z e3 e4 e9 cz i (Dl.cp s₀ ++ ip) s σ3 H3 Z.xe I3 fr3 st3 go
        rw [e2] at q
        refine wpAny_mono q (fun r s4 hr => ?_) fun x s' hx => ee n ys s₀ x s' Z z hx
        obtain ⟨u, rfl, h4⟩ := hr
        refine wpAny_mono h4 (fun _ s5 h5 => ?_) fun x s' hx => ee n ys s₀ x s' Z z hx
        obtain ⟨x, H5, I5, r5, y5, st5, fr5⟩ := h5
        have stat5 : ∀ b ∈ fp, FpOk Z (Dl.cp s₀ ++ ip) H5 b := fun b hb => ⟨fr5 b hb, (fr3 b hb).2⟩
        have I5' := I5.pinned stat5 (T.obj _ _ st5)
        have q6 := (hg Z z.fm).run _ s5 σ3 H5 x u _ I5' r5 (step x H5 y5)
        rw [e1, e2, e3, e4] at q6
        refine wpAny_mono q6 (fun _ s6 h6 => ?_) fun x s' hx => ee n ys s₀ x s' Z z hx
        obtain ⟨σ6, H6, I6, q6⟩ := h6
        have hip2 : ∀ p ∈ X.pn ++ (ip ++ pinsAt fp s5.heap), p.1 ∉ Dl.ad := fun p hp hb => by
          rcases List.mem_append.mp hp with hp | hp
          · exact hip p (List.mem_append_left _ hp) hb
          rcases List.mem_append.mp hp with hp | hp
          · exact hip p (List.mem_append_right _ hp) hb
          · obtain ⟨hf, _⟩ := of_pinsAt hp
            obtain ⟨o', e'⟩ := z.ad p.1 hb
            exact (fr3 p.1 hf).2.2.2.2.2 (p.1, o') (List.mem_append_right _ (List.mem_append_left _ (mem_pinsAt hb e'))) rfl
        refine hb.run A (ip ++ pinsAt fp s5.heap) R n ys s₀ _ _ _ _ id id s6 σ6 H6 { D with nx := N, ct := N, bk := D.nx } Z hip2 z gl hn ⟨fun n' ys' s₀' s7 f Z' z' hn' hs => ?_, fun n' ys' s₀' x s7 Z' z' hx => ee n' ys' s₀' x s7 Z' z' hx⟩ (by rw [← List.append_assoc]; exact I6) q6
        have q1 := F.same Z z.fm
        have q2 := F.same Z' z'.fm
        have back : ∀ {σ7 : St} {H7 : Hp}, Inv Z' (Dl.cp s₀' ++ (ip ++ pinsAt fp s5.heap)) σ7 H7 s7 → Inv Z' (Dl.cp s₀' ++ ip) σ7 H7 s7 ∧ tn (i + 1) s7.heap ∧ ∀ b ∈ fp, FpOk Z' (Dl.cp s₀' ++ ip) H7 b := fun {σ7 H7} h7 => by
          rw [← List.append_assoc] at h7
          have pin : ∀ b ∈ fp, ∀ o, s5.heap.get? b = some o → s7.heap.get? b = some o ∧ H7 b = none := fun b hb o e => by
            obtain ⟨r1, r2, _⟩ := h7.pin (b, o) (List.mem_append_right _ (List.mem_append_right _ (mem_pinsAt hb e)))
            exact ⟨r1, r2⟩
          refine ⟨h7.unpinned, T.keep _ _ _ st5 fun b hb o e => (pin b hb o e).1, fun b hb => ?_⟩
          obtain ⟨o, e, _⟩ := T.obj _ _ st5 b hb
          obtain ⟨_, t1, t2, t3, t4, t5⟩ := fr3 b hb
          refine ⟨(pin b hb o e).2, ?_, ?_, ?_, ?_, ?_⟩
          · rw [q2]; rw [q1] at t1; exact t1
          · show b ∉ frs Z'.outer
            rw [q2]; have t2' : b ∉ frs Z.outer := t2; rw [q1] at t2'; exact t2'
          · rw [q2]; rw [q1] at t3
            show b ∈ X.ex ∨ Z'.s_0.heap.objs.size ≤ b
            rw [z'.size, ← z.size]; exact t3
          · rw [q2]; rw [q1] at t4; exact t4
          · rw [q2]; rw [q1] at t5
            intro p hp
            rcases List.mem_append.mp hp with hp | hp
            · exact t5 p (List.mem_append_left _ hp)
            rcases List.mem_append.mp hp with hp | hp
            · obtain ⟨hb', _⟩ := of_pinsAt hp
              obtain ⟨o', e'⟩ := z.ad p.1 hb'
              exact t5 (p.1, o') (List.mem_append_right _ (List.mem_append_left _ (mem_pinsAt hb' e')))
            · exact t5 p (List.mem_append_right _ (List.mem_append_right _ hp))
        cases f with
        | next =>
          obtain ⟨σ7, H7, G7, n7⟩ := hs
          obtain ⟨m', hm, w7⟩ := hN ys' σ7 H7 n7
          obtain ⟨G8, st8, fr8⟩ := back G7
          exact seg_again rfl (ih m' hm n' (i + 1) ys' s₀' s7 σ7 H7 Z' z' hn' w7 st8 fr8 G8)
        | cont =>
          obtain ⟨σ7, H7, G7, n7⟩ := hs
          obtain ⟨m', hm, w7⟩ := hN ys' σ7 H7 n7
          obtain ⟨G8, st8, fr8⟩ := back G7
          exact seg_again rfl (ih m' hm n' (i + 1) ys' s₀' s7 σ7 H7 Z' z' hn' w7 st8 fr8 G8)
        | brk =>
          obtain ⟨σ7, H7, G7, n7⟩ := hs
          exact seg_leaf (.ok .next) (k.ok n' ys' s₀' s7 .next Z' z' hn' ⟨σ7, H7, (back G7).1, n7⟩)
        | ret v =>
          obtain ⟨x7, σ7, H7, G7, r7, n7⟩ := hs
          exact seg_leaf (.ok (.ret v)) (k.ok n' ys' s₀' s7 (.ret v) Z' z' hn' ⟨x7, σ7, H7, (back G7).1, r7, n7⟩)
  exact loop m0 n 0 ys s₀ s2 σ H2 Z z hn w0 st2 f2 I2
end
end L2

set_option Elab.async false
set_option linter.all false
set_option maxRecDepth 100000
set_option maxHeartbeats 4000000
/-! a generator def by its body -/
namespace L2
open PySem PySem.Spec PyProof.Rows GenW
/-- the promise: the arguments, the heap, the deal, what is wanted at the end of all that was handed out, the exception -/
abbrev SpG3 := List V → Hp → Deal → (List V → Hp → Prop) → XK → Prop
section
variable (P : Program) (w : World) (outer : List Env) (n₀ : Nat) (Dl : Deal)
def Er3 (E : XK) (a : Addr) (g : Nat) : Value → Shared → Prop := fun e s1 => ∃ ys HE sE, Dl.cs ys HE sE ∧ n₀ ≤ sE.heap.objs.size ∧ CX P w outer HE (headS sE n₀) E e s1 ∧ s1.heap.IsGen a g
def Fin3 (Q : List V → Hp → Prop) : Nat → Shared → Shared → Prop := fun n s₀ s1 => ∃ ys HE H', Dl.cs ys HE s₀ ∧ n₀ ≤ s₀.heap.objs.size ∧ s1.os = s₀.os ∧ AllBare s1.gens ∧ Un (frs outer) [] HE H' (headH s₀.heap n₀) s1.heap ∧ HOk P w H' s1.heap ∧ (∀ p ∈ Dl.cp s₀, s1.heap.get? p.1 = some p.2 ∧ H' p.1 = none) ∧ Q ys H'
abbrev End3 (Q : List V → Hp → Prop) (E : XK) (a : Addr) (g : Nat) : GenEnd := fun n s₀ r s1 => ((r = .ok (.ret .none) ∨ r = .ok .next) ∧ Fin3 P w outer n₀ Dl Q n s₀ s1) ∨ ∃ e, r = .error e ∧ Er3 P w outer n₀ Dl E a g e s1
end
/-- the deal, with the consumer's places -/
abbrev Deal.at (Dl : Deal) (ad : List Addr) : Deal := { Dl with ad := ad }
/-- what its call gives -/
def Made3 (P : Program) (w : World) (k : Nat) (base : Heap) (outer : List Env) (H : Hp) (s : Shared) (AD : Deal → (List V → Hp → Prop) → Prop) (E : XK) (u : Value) (s' : Shared) : Prop :=
  ∃ (a : Addr) (g : Nat) (c : Code) (go : Obj), u = .ref a ∧ s.heap.objs.size ≤ a ∧ a < s'.heap.objs.size ∧ s'.heap.get? a = some go ∧ (∀ h : Heap, h.get? a = some go → h.IsGen a g) ∧ s'.gens[g]? = some (.fresh c) ∧ s'.os = s.os ∧ AllBare s'.gens ∧ (∀ b o, s.heap.get? b = some o → s'.heap.get? b = some o) ∧
    ∀ (A : Around) (s2 : Shared) (Dl : Deal) (Q : List V → Hp → Prop), AD Dl Q → Room k A → A.frames = some outer → (∀ b o, s'.heap.get? b = some o → s2.heap.get? b = some o) → s2.os = s.os → AllBare s2.gens → (∀ b ∈ Dl.ad, s'.heap.objs.size ≤ b ∧ ∃ o, s2.heap.get? b = some o ∧ ∀ v, o.data ≠ .cell v) → Dl.cs [] H s2 →
      Seg (model P w) A (End3 P w outer s.heap.objs.size Dl Q E a g) (GY3 P w base outer [(a, go)] s.heap.objs.size Dl) sizeLine s2 c ((model P w).den c) [] s2
structure GFn3 (P : Program) (w : World) (K : PySem.W.Frag) (mg : Str → Option Value) (base : Heap) (k : Nat) (f : Addr) (fd : FuncData) (ps : List Str) (sp : SpG3) : Prop where
  len : ∀ vs H Dl Q E, sp vs H Dl Q E → vs.length = ps.length
  run : ∀ (A : Around) (outer : List Env) (s : Shared) (H : Hp) (args : Args) (us : List Value) (vs : List V) (AD : Deal → (List V → Hp → Prop) → Prop) (E : XK), (∃ Dl Q, AD Dl Q) → Room k A → Env0 P w K mg base A outer s H → BindsTo s fd args (ps.zip us) → Vals vs us → (∀ Dl Q, AD Dl Q → sp vs H Dl Q E) →
    codeAny (model P w) A (.call (.ref f) args) (fun r s' => match r with | .ok (.ret u) => Made3 P w k base outer H s AD E u s' | _ => False) s
section
variable {P : Program} {w : World} {K : PySem.W.Frag} {mg : Str → Option Value} {base : Heap}
/-- the family of a call: its frame stands at n₀ -/
def FmG (P : Program) (w : World) (K : PySem.W.Frag) (mg : Str → Option Value) (base : Heap) (N : List Str) (qual : Str) (scope : Scope) (f : Addr) (cd : Value) (A : Around) (outer : List Env) (E : XK) (pn : List (Addr × Obj)) (n₀ : Nat) (Z : Cx) : Prop :=
  ∃ s H, s.heap.objs.size = n₀ ∧ Z = gcxOf P w K mg base N qual scope f cd A outer s H E pn
theorem fam_g {N : List Str} {qual : Str} {scope : Scope} {f : Addr} {cd : Value} {A : Around} {outer : List Env} {E : XK} {pn : List (Addr × Obj)} {s : Shared} {H : Hp} (hb : base.objs.size ≤ s.heap.objs.size) :
    Fam (FmG P w K mg base N qual scope f cd A outer E pn s.heap.objs.size) s.heap.objs.size (gcxOf P w K mg base N qual scope f cd A outer s H E pn) := by
  refine ⟨fun Z ⟨s', H', hs, hZ⟩ => ?_, fun s' H' hs => ⟨_, ⟨s', H', hs, rfl⟩, rfl, rfl⟩, rfl, hb, fun Z ⟨s', H', hs, hZ⟩ x => (by rw [hZ]; rfl), rfl⟩
  subst hZ
  unfold gcxOf cxOf
  rw [hs]
/-- a member's room -/
theorem FmG.room {qual : Str} {scope : Scope} {f : Addr} {cd : Value} {A : Around} {s s' : Shared} {k : Nat} (hr : Room k (A.deeper (envOfC qual scope s.heap.objs.size f cd))) (hs : s'.heap.objs.size = s.heap.objs.size) :
    Room k (A.deeper (envOfC qual scope s'.heap.objs.size f cd)) := by rw [hs]; exact hr
theorem gfn3_of {k : Nat} {f : Addr} {name qual : Str} {params : Arguments} {body : List Stmt} {scope : Scope} {dV kV doc pm cdv ct oc : Value} {an od : Option Addr}
    {osl : Array (Option Value)} {N ps : List Str} {sp : SpG3} (lk : K.lookup f = some ⟨oc, od, .func (PySem.W.fnOf name qual params body scope dV kV doc pm an cdv ct), osl⟩) (hcd : PySem.W.codeIn K cdv qual = true) (S : GScope N ps scope)
    (len : ∀ vs H Dl Q E, sp vs H Dl Q E → vs.length = ps.length)
    (hbody : ∀ (A : Around) (outer : List Env) (s : Shared) (H : Hp) (vs : List V) (Dl : Deal) (Q : List V → Hp → Prop) (E : XK) (pn : List (Addr × Obj)), base.objs.size ≤ s.heap.objs.size → Room k (A.deeper (envOfC qual scope s.heap.objs.size f cdv)) → sp vs H Dl Q E →
      ∃ t, GQs (FmG P w K mg base N qual scope f cdv A outer E pn s.heap.objs.size) s.heap.objs.size (gcxOf P w K mg base N qual scope f cdv A outer s H E pn) Dl body t ∧ t { nx := fun ys _ H' => Q ys H', rt := fun ys v H' => v = .non ∧ Q ys H' } [] (start N vs) H) :
    GFn3 P w K mg base (k + 1) f (PySem.W.fnOf name qual params body scope dV kV doc pm an cdv ct) ps sp := by
  refine ⟨len, fun A outer s H args us vs AD E hAD hr e0 hb r hsp => ?_⟩
  obtain ⟨Dl0, Q0, hA0⟩ := hAD
  have hl := len _ _ _ _ _ (hsp Dl0 Q0 hA0)
  have kin : K.In s.heap := e0.mod.kin.keeps fun b o e => (e0.bs b o e).1
  have lim : s.heap.NoLimit := e0.mod.nolimit.keeps fun b o e => (e0.bs b o e).1
  have kinds : ∀ y ∈ ps.zip us, scope.names.lookup y.1 = some .local ∨ (scope.names.lookup y.1 = some .cell ∧ ((cellsFrom (s.heap.objs.size + 1) scope.names []).lookup y.1).isSome = true) := fun ⟨n, v⟩ hy =>
    (S.par n (List.of_mem_zip hy).1).imp id fun q => ⟨q, PySem.W.cellsFrom_some _ _ _ (.inl q)⟩
  refine codeAny_call_generator hr.depth (kin _ _ lk) rfl S.co S.gen rfl (PySem.W.codeRec_of kin hcd) (hb _ _ _ _ (wpAny_newFunctionEnv_cells S.kind kinds fun env he s1 x => ?_))
  subst he
  have lim1 : s1.heap.NoLimit := lim.keeps x.toInCall.keep
  refine ⟨lim1, ?_⟩
  obtain ⟨h1, tk, es1, hk1⟩ := x.done
  have os1 : s1.os = s.os := by rw [es1]
  have gen1 : s1.gens = s.gens := by rw [es1]
  have lt1 : s.heap.objs.size < s1.heap.objs.size := x.toInCall.ns.lt
  have kp1 : ∀ b o, s.heap.get? b = some o → s1.heap.get? b = some o := x.toInCall.keep
  have main : ∀ (go : Obj) (nm qn : Value) (tk2 : Nat), go.cls = .type "generator" → go.data = .fields #[.int s1.gens.size 0, nm, qn] → go.slots = #[] → (∀ h : Heap, (h.push go).get? h.objs.size = some go) →
      Made3 P w (k + 1) base outer H s AD E (.ref s1.heap.objs.size) { s1 with gens := s1.gens.push (.fresh (.func body (envOfC qual scope s.heap.objs.size f cdv))), toks := tk2, heap := s1.heap.push go } := by
    intro go nm qn tk2 hgc hgd hgs hgp
    have isg : ∀ h : Heap, h.get? s1.heap.objs.size = some go → h.IsGen s1.heap.objs.size s1.gens.size := fun h e => ⟨go, nm, qn, e, hgc, hgd, hgs⟩
    refine ⟨s1.heap.objs.size, s1.gens.size, _, go, rfl, Nat.le_of_lt lt1, ?_, hgp _, isg, Array.getElem?_push_size .., os1, ?_, fun b o e => Heap.get?_push_of_some _ (kp1 b o e), ?_⟩
    · show _ < (s1.heap.push _).objs.size
      rw [Heap.size_push]; exact Nat.lt_succ_self _
    · exact AllBare.push (by rw [gen1]; exact e0.bare) rfl
    intro Aw s2 Dl Q hA hrw hfr hk2 hos hba had hcs
    have kp2 : ∀ b o, s1.heap.get? b = some o → s2.heap.get? b = some o := fun b o e => hk2 b o (Heap.get?_push_of_some _ e)
    have kp3 : ∀ b o, s.heap.get? b = some o → s2.heap.get? b = some o := fun b o e => kp2 b o (kp1 b o e)
    have hea : s2.heap.get? s1.heap.objs.size = some go := hk2 s1.heap.objs.size go (hgp _)
    have sz2 : s.heap.objs.size ≤ s2.heap.objs.size := Nat.le_of_lt (Nat.lt_trans lt1 (Heap.lt_size hea))
    have e0w : Env0 P w K mg base Aw outer s H := ⟨hfr, e0.mod, e0.bs, e0.bsz, e0.funs, e0.frf, e0.hok, e0.bare⟩
    obtain ⟨t, ht, hq⟩ := hbody Aw outer s H vs Dl Q E [(s1.heap.objs.size, go)] e0.bsz (hrw.deeper _) (hsp Dl Q hA)
    have I1 : Inv (gcxOf P w K mg base N qual scope f cdv Aw outer s H E []) [] (start N vs) H s1 := inv_startG S hrw.hd e0w hl r x
    have I2 : Inv (gcxOf P w K mg base N qual scope f cdv Aw outer s H E []) [] (start N vs) H s2 := I1.call' (ch := []) (hos.trans os1.symm) (Un.kept kp2) (I1.hok.kept kp2) hba fun b z => nomatch z
    have hn1 : H s1.heap.objs.size = none := I1.hok.fresh (Nat.le_refl _)
    have hado : AdOk Dl.ad s.heap.objs.size outer H s2.heap := fun b hb => by
      obtain ⟨q1, q2⟩ := had b hb
      have q1 : (s1.heap.push go).objs.size ≤ b := q1
      rw [Heap.size_push] at q1
      have q3 : s1.heap.objs.size ≤ b := Nat.le_of_succ_le q1
      exact ⟨Nat.lt_of_lt_of_le lt1 q3, I1.hok.fresh q3, I1.nofs q3, q2⟩
    have I3 : Inv (gcxOf P w K mg base N qual scope f cdv Aw outer s H E [(s1.heap.objs.size, go)]) (pinsAt Dl.ad s2.heap ++ []) (start N vs) H s2 := Inv.pinnedG I2 fun p hp => by
      rcases List.mem_append.mp hp with hp | hp
      · rw [List.mem_singleton.mp hp]
        exact ⟨hea, hn1, Nat.ne_of_gt lt1, I1.nofs (Nat.le_refl _), fun v q => by rw [hgd] at q; cases q⟩
      · rw [List.append_nil] at hp
        obtain ⟨hb, e⟩ := of_pinsAt hp
        obtain ⟨w1, w2, w3, o, w4, w5⟩ := hado p.1 hb
        rw [e] at w4
        cases w4
        exact ⟨e, w2, Nat.ne_of_gt w1, w3, w5⟩
    have F := fam_g (P := P) (w := w) (K := K) (mg := mg) (N := N) (qual := qual) (scope := scope) (f := f) (cd := cdv) (A := Aw) (outer := outer) (E := E) (pn := [(s1.heap.objs.size, go)]) (s := s) (H := H) e0.bsz
    have wk : Wk P w base outer s.heap.objs.size Dl.ad H s2 := by
      refine ⟨hba, fun b o e => ⟨kp3 b o (e0.bs b o e).1, (e0.bs b o e).2⟩, Heap.FunFrames.of_keeps (fun b o e _ => ⟨o, kp3 b o e, rfl⟩) e0.funs, fun b hb => ?_, e0.hok.kept kp3, sz2, hado⟩
      obtain ⟨_, o, ho, _⟩ := e0.funs.mem hb
      exact ⟨Heap.lt_size ho, e0.frf b hb⟩
    obtain ⟨Z, f1, f2, f3, I4⟩ := reseat F (Z := gcxOf P w K mg base N qual scope f cdv Aw outer s H E [(s1.heap.objs.size, go)]) ⟨s, H, rfl, rfl⟩ rfl I3 wk fun b mb o e => ⟨e, by
      rcases mb with rfl | ⟨y, hy⟩ | ⟨p, hp, rfl⟩
      · exact I3.free
      · exact I3.freeC y b hy
      · exact (I3.pin p ((List.mem_append.mp hp).elim (List.mem_append_left _) fun h => (by cases h))).2.1⟩
    have zz : Seat (FmG P w K mg base N qual scope f cdv Aw outer E [(s1.heap.objs.size, go)] s.heap.objs.size) s.heap.objs.size Dl [] s2 Z := ⟨f1, f2, by rw [f3]; exact hcs, sz2, fun b hb => let ⟨_, _, _, o, e, _⟩ := hado b hb; ⟨o, e⟩⟩
    have fin : ∀ {n : Nat} {ys : List V} {s₀ s' : Shared} {σ' : St} {H' : Hp} {Z : Cx}, Seat (FmG P w K mg base N qual scope f cdv Aw outer E [(s1.heap.objs.size, go)] s.heap.objs.size) s.heap.objs.size Dl ys s₀ Z → Inv Z (Dl.cp s₀ ++ []) σ' H' s' → Q ys H' → Fin3 P w outer s.heap.objs.size Dl Q n s₀ s' := fun {n ys s₀ s' σ' H' Z} z I q => by
      obtain ⟨e1, e2, e3, e4, e5, e6, e7, e8, _⟩ := F.env z.fm
      have hb := I.base
      have hfs : Z.fs = frs outer := by show frs Z.outer = _; rw [e5]; rfl
      have hex : Z.ex = [] := by rw [e8]; rfl
      rw [hfs, hex, z.at0] at hb
      have hk := I.hok
      rw [e3, e4] at hk
      exact ⟨ys, Z.H_0, H', z.cs, z.sz, by rw [I.os, z.at0]; rfl, I.bare, hb, hk, fun p hp => let ⟨r1, r2, _⟩ := I.pin p (List.mem_append_right _ (List.mem_append_left _ hp)); ⟨r1, r2⟩, q⟩
    have hip0 : ∀ p ∈ [(s1.heap.objs.size, go)] ++ ([] : List (Addr × Obj)), p.1 ∉ Dl.ad := fun p hp hb => by
      rw [List.append_nil] at hp
      have q1 : (s1.heap.push go).objs.size ≤ p.1 := (had p.1 hb).1
      rw [Heap.size_push, List.mem_singleton.mp hp] at q1
      exact absurd q1 (Nat.not_succ_le_self _)
    refine seg_func ?_
    refine ht.run Aw [] _ sizeLine [] s2 _ [] _ _ id id s2 (start N vs) H _ Z hip0 zz ⟨over_func, rfl, rfl, rfl⟩ (Nat.add_zero _) ⟨fun n ys s₀ s' fl Z z hn hs => ?_, fun n ys s₀ e s' Z z hx => ?_⟩ I4 hq
    · cases fl with
      | next =>
        obtain ⟨σ', H', I, q⟩ := hs
        exact seg_end (.ok (.ret .none)) (.inl ⟨.inl rfl, fin z I q⟩)
      | brk => obtain ⟨_, _, _, q⟩ := hs; exact False.elim q
      | cont => obtain ⟨_, _, _, q⟩ := hs; exact False.elim q
      | ret u =>
        obtain ⟨v, σ', H', I, rv, rfl, q⟩ := hs
        obtain rfl : u = Value.none := rv
        exact seg_end (.ok (.ret .none)) (.inl ⟨.inl rfl, fin z I q⟩)
    · obtain ⟨s', H', hs', rfl⟩ := z.fm
      refine seg_wrap ?_
      rw [over_func]
      have hx' : wpAny (model P w) (Aw.deeper (envOfC qual scope s'.heap.objs.size f cdv)) (leaving (envOfC qual scope s'.heap.objs.size f cdv) e) (fun _ s'' => CX P w outer H' s' E e s'' ∧ ∀ p ∈ [(s1.heap.objs.size, go)], s''.heap.get? p.1 = some p.2) (fun _ _ => False) _ := hx
      rw [hs'] at hx'
      refine wpAny_mono hx' (fun _ s'' q => seg_end (.error e) (.inr ⟨e, rfl, ys, H', s₀, z.cs, z.sz, ?_, isg _ (q.2 _ (List.mem_singleton.mpr rfl))⟩)) fun _ s'' q => q.elim
      have ea : s' = headS s₀ s.heap.objs.size := z.at0
      rw [← ea]; exact q.1
  exact main _ _ _ _ rfl rfl rfl fun h => Heap.get?_push_size _ rfl
structure OwnG3 (P : Program) (w : World) (K : PySem.W.Frag) (mg : Str → Option Value) (base : Heap) (x : Str) (k : Nat) (ps : List Str) (sp : SpG3) : Prop where
  ex : ∃ (f : Addr) (fd : FuncData), GFn3 P w K mg base k f fd ps sp ∧ mg x = some (.ref f) ∧ PySem.W.keepIn K (.ref f) = true ∧ Binds K fd ps []
theorem DefAt.ownG3 {x : Str} {st : Stmt} {ps : List Str} {k : Nat} {sp : SpG3} (D : DefAt K mg x st ps) (h : ∀ f fd, Fun K x x st f fd → GFn3 P w K mg base k f fd ps sp) : OwnG3 P w K mg base x k ps sp := by
  obtain ⟨f, fd, F, hm, hb⟩ := D.ex
  exact ⟨f, fd, h f fd F, hm, F.kp, hb⟩
/-- .. by its text -/
theorem gfn3_fun {x qual : Str} {st : Stmt} {f : Addr} {fd : FuncData} {N ps : List Str} {k : Nat} {sp : SpG3} (F : Fun K x qual st f fd) (S : GScope N ps (defScope st)) (len : ∀ vs H Dl Q E, sp vs H Dl Q E → vs.length = ps.length)
    (hbody : ∀ (cdv : Value) (A : Around) (outer : List Env) (s : Shared) (H : Hp) (vs : List V) (Dl : Deal) (Q : List V → Hp → Prop) (E : XK) (pn : List (Addr × Obj)) (Fm : Cx → Prop) (X : Cx), Fm = FmG P w K mg base N qual (defScope st) f cdv A outer E pn s.heap.objs.size → X = gcxOf P w K mg base N qual (defScope st) f cdv A outer s H E pn →
      Fam Fm s.heap.objs.size X → Room k (A.deeper (envOfC qual (defScope st) s.heap.objs.size f cdv)) → sp vs H Dl Q E →
      ∃ t, GQs Fm s.heap.objs.size X Dl (defBody st) t ∧ t { nx := fun ys _ H' => Q ys H', rt := fun ys v H' => v = .non ∧ Q ys H' } [] (start N vs) H) : GFn3 P w K mg base (k + 1) f fd ps sp := by
  obtain ⟨oc, od, kV, doc, pm, an, cdv, ct, osl, rfl, lk, hcd⟩ := F.ex
  exact gfn3_of lk hcd S len fun A outer s H vs Dl Q E pn hb hr hsp => hbody cdv A outer s H vs Dl Q E pn _ _ rfl rfl (fam_g hb) hr hsp
end
end L2

set_option Elab.async false
set_option linter.all false
set_option maxRecDepth 100000
set_option maxHeartbeats 4000000
/-! the consumer: what it may do between the items -/
namespace L2
open PySem PySem.Spec PyProof.Rows GenW
/-- no generator is touched, what is untracked stays -/
structure Soft (X : Cx) (s : Shared) (H : Hp) (s' : Shared) (H' : Hp) : Prop where
  gens : s'.gens = s.gens
  size : s.heap.objs.size ≤ s'.heap.objs.size
  keep : ∀ b o, s.heap.get? b = some o → H b = none → b ∉ frs X.stack → s'.heap.get? b = some o ∧ H' b = none
theorem Soft.refl {X : Cx} {s : Shared} {H : Hp} : Soft X s H s H := ⟨rfl, Nat.le_refl _, fun b o e n _ => ⟨e, n⟩⟩
theorem Soft.trans {X : Cx} {s1 s2 s3 : Shared} {H1 H2 H3 : Hp} (a : Soft X s1 H1 s2 H2) (b : Soft X s2 H2 s3 H3) : Soft X s1 H1 s3 H3 :=
  ⟨b.gens.trans a.gens, Nat.le_trans a.size b.size, fun c o e n hc => let ⟨e2, n2⟩ := a.keep c o e n hc; b.keep c o e2 n2 hc⟩
/-- a target -/
structure PGq (X : Cx) (tg : Expr) (t : TG) : Prop where
  run : ∀ (pins : List (Addr × Obj)) (s : Shared) (σ : St) (H : Hp) (v : V) (u : Value) (Q : St → Hp → Prop), Inv X pins σ H s → RelV v u → t v σ H Q →
    wpAny (model X.prog X.w) X.A (assign tg X.env u) (fun _ s' => ∃ σ' H', Inv X pins σ' H' s' ∧ Soft X s H s' H' ∧ Q σ' H') X.xe s
/-- an expression -/
structure PEq (X : Cx) (e : Expr) (t : TE) : Prop where
  run : ∀ (pins : List (Addr × Obj)) (s : Shared) (σ : St) (H : Hp) (Q : VK), Inv X pins σ H s → t σ H Q → wpAny (model X.prog X.w) X.A (eval e X.env) (fun u s' => ∃ x H', Inv X pins σ H' s' ∧ Soft X s H s' H' ∧ RelV x u ∧ Q x H') X.xe s
/-- a body -/
structure PBq (X : Cx) (body : List Stmt) (t : TS) : Prop where
  run : ∀ (pins : List (Addr × Obj)) (s : Shared) (σ : St) (H : Hp) (D : Ends), Inv X pins σ H s → t D σ H → wpAny (model X.prog X.w) X.A (execs body X.env) (fun f s' => match f with
    | .next => ∃ σ' H', Inv X pins σ' H' s' ∧ Soft X s H s' H' ∧ D.nx σ' H'
    | .cont => ∃ σ' H', Inv X pins σ' H' s' ∧ Soft X s H s' H' ∧ D.ct σ' H'
    | .brk => ∃ σ' H', Inv X pins σ' H' s' ∧ D.bk σ' H'
    | .ret u => ∃ v σ' H', Inv X pins σ' H' s' ∧ RelV v u ∧ D.rt v H') X.xe s
section
variable {X : Cx} {pins : List (Addr × Obj)} {σ : St} {H : Hp} {s : Shared}
/-- a body that never comes to its end -/
theorem pbq_end {body : List Stmt} {t : TS} (h : PSs X body t) : PBq X body (fun D σ H => t { D with nx := fun _ _ => False, ct := fun _ _ => False } σ H) := by
  refine ⟨fun pins s σ H D I q => thn (h.run pins s σ H _ I q) fun f s' hs => ?_⟩
  cases f with
  | next => obtain ⟨_, _, _, z⟩ := hs; exact z.elim
  | cont => obtain ⟨_, _, _, z⟩ := hs; exact z.elim
  | brk => exact hs
  | ret u => exact hs
theorem peq_var {i : Nat} {x : Str} {pos : Pos} (hN : X.N[i]? = some x) (hv : X.env.scope.names.lookup x = some .local) (hd : (x == ("__debug__" : Str)) = false := by decide) : PEq X (.Name x pos) (tVar i) := by
  refine ⟨fun pins s σ H Q I ⟨v, e, h⟩ => ?_⟩
  obtain ⟨m, hn, hl⟩ := I.loc
  obtain ⟨u, r, l⟩ := hl i x v hN e (.inl hv)
  rcases l with ⟨hk, hm⟩ | ⟨hk, _⟩
  · exact wpAny_Name (wpAny_loadName_local I.ok.kind hk hn hm ⟨v, H, I, .refl, r, h⟩) hd
  · have hk' : X.env.scope.names.lookup x = some .cell ∨ X.env.scope.names.lookup x = some .free := hk
    rw [hv] at hk'
    rcases hk' with z | z <;> cases z
theorem pgq_name {i : Nat} {x : Str} {pos : Pos} (hs : X.stack = X.env :: X.outer) (hf : X.env.frame = some X.env.locals) (hN : X.N.Nodup) (hi : X.N[i]? = some x) (hv : X.env.scope.names.lookup x = some .local) : PGq X (.Name x pos) (gName i) := by
  refine ⟨fun pins s σ H v u Q I r h => wpAny_assign_Name ?_⟩
  obtain ⟨m, hn, hl⟩ := id I.loc
  have inF : X.env.locals ∈ frs X.stack := by rw [hs]; exact List.mem_filterMap.mpr ⟨_, List.mem_cons_self, hf⟩
  refine wpAny_storeName_local hv hn (fun h' hn' hb => ?_) (by rw [I.ok.kind]; rfl)
  have ne : ∀ b o, s.heap.get? b = some o → b ≠ X.env.locals → h'.get? b = some o := fun b o e z => (hb.2 b z).trans e
  have old : ∀ b o, X.s_0.heap.get? b = some o → b ≠ X.env.locals := fun b o e => Nat.ne_of_lt (Nat.lt_of_lt_of_le (Heap.lt_size e) I.ok.above)
  have hlen : i < σ.length := by rw [I.len]; exact (List.getElem?_eq_some_iff.mp hi).1
  refine ⟨_, H, ⟨I.ok, I.os, I.bare, ?_, ⟨_, hn', fun j y v' t1 t2 t3 => ?_⟩, fun y c e => ?_, I.free, I.freeC, fun p hp => ?_, ?_, by rw [List.length_set]; exact I.len⟩, ⟨rfl, Nat.le_of_eq hb.1.symm, fun b o e n hF => ⟨ne b o e fun z => hF (by rw [z]; exact inF), n⟩⟩, h⟩
  · refine ⟨fun b o e n a1 a2 => ne b o (I.base.keep b o e n a1 a2) (old b o e), fun b o e n a1 a2 => ?_, I.base.free, fun b o e a2 => ?_, I.base.tups, I.base.frzs, I.base.tbls⟩
    · obtain ⟨sl, q⟩ := I.base.slot b o e n a1 a2
      exact ⟨sl, ne b _ q (old b o e)⟩
    · obtain ⟨o', q⟩ := I.base.there b o e a2
      exact ⟨o', ne b _ q (old b o e)⟩
  · by_cases hj : j = i
    · subst hj
      rw [hi] at t1; cases t1
      rw [List.getElem?_set_self hlen] at t2
      cases t2
      exact ⟨u, r, .inl ⟨hv, if_pos rfl⟩⟩
    · rw [List.getElem?_set_ne (fun z => hj z.symm)] at t2
      obtain ⟨u', r', q⟩ := hl j y v' t1 t2 t3
      have hy : y ≠ x := fun z => hj (nodup_ix hN t1 (by rw [z]; exact hi))
      rcases q with ⟨k, e⟩ | ⟨k, c, e, o, ho, hd⟩
      · exact ⟨u', r', .inl ⟨k, (if_neg hy).trans e⟩⟩
      · exact ⟨u', r', .inr ⟨k, c, e, o, ne c o ho (I.cne y c e), hd⟩⟩
  · obtain ⟨w, o, ho, hd⟩ := I.cell y c e
    exact ⟨w, o, ne c o ho (I.cne y c e), hd⟩
  · obtain ⟨a1, a2, a3, a4, a5⟩ := I.pin p hp
    exact ⟨ne p.1 p.2 a1 a3, a2, a3, a4, a5⟩
  · intro b ob e
    refine (I.hok b ob e).stay (fun c w hc q => ne c w q fun z => ?_) (fun _ q => q) fun _ _ q => q
    subst z
    have hF := I.free
    rcases hc with hc | hc
    · rw [← hc, hF] at e; cases e
    · rw [hF] at hc; cases hc
/-- l.append(x) -/
def tAppq (i j : Nat) : TS := fun D σ H => ∃ l x xs, σ[i]? = some (some (.ref l)) ∧ σ[j]? = some (some x) ∧ H l = some (.lst xs) ∧ xs.length < sizeLine ∧ D.nx σ (upd H l (.lst (xs ++ [x])))
theorem pbq_app {i j : Nat} {l x : Str} {p1 p2 ap pos pos2 : Pos} (hi : X.N[i]? = some l) (hl : X.env.scope.names.lookup l = some .local) (hj : X.N[j]? = some x) (hx : X.env.scope.names.lookup x = some .local)
    (hbase : attributeBase (.Name l p1) "append" X.env (eval (.Name l p1) X.env) = eval (.Name l p1) X.env := by rfl)
    (hfew : ((backTo pos (starEach [.Name x p2] X.env)).all (fun x => !x.1) && (backToKw pos (keywordEach [] X.env)).all (fun x => x.1.isSome) && decide (([Expr.Name x p2] : List Expr).length + ([] : List Keyword).length + (if ([] : List Keyword).isEmpty then 0 else 1) < 30)) = true := by rfl)
    (hline : (ap.endLine == pos.line) = true := by rfl) (htr : backTo pos (starEach [.Name x p2] X.env) = [(false, eval (.Name x p2) X.env)] := by rfl)
    (hin : interactive X.env = false := by rfl) (hsw : swapsWith (.Call (.Attribute (.Name l p1) "append" ap) [.Name x p2] [] pos) none pos2.line X.env = pure false := by rfl)
    (hd : (l == ("__debug__" : Str)) = false := by decide) (hd2 : (x == ("__debug__" : Str)) = false := by decide) :
    PBq X [.Expr (.Call (.Attribute (.Name l p1) "append" ap) [.Name x p2] [] pos) pos2] (tAppq i j) := by
  refine ⟨fun pins s σ H D I ⟨a, y, xs, e1, e2, hH, hz, q⟩ => ?_⟩
  refine wpAny_execs_cons ?_
  refine wpAny_Expr ?_ hin hsw
  refine wpAny_Call_append hbase hfew hline htr (thn ((peq_var hi hl hd).run pins s σ H (fun v H' => v = .ref a ∧ H' = H) I ⟨_, e1, rfl, rfl⟩) fun u s1 ⟨x1, H1, I1, S1, r1, q1, q2⟩ => ?_)
  subst q1 q2
  cases r1
  obtain ⟨z, its, n, r, hl', e⟩ := I1.lstM hH
  refine ⟨a, its.toArray, rfl, ⟨_, n, e, rfl, rfl, rfl⟩, thn ((peq_var hj hx hd2).run pins s1 σ H1 (fun v H' => v = y ∧ H' = H1) I1 ⟨_, e2, rfl, rfl⟩) fun u2 s2 ⟨x2, H2, I2, S2, r2, q1, q2⟩ => ?_⟩
  subst q1 q2
  obtain ⟨z, its, n, r, hl', e⟩ := I2.lstM hH
  refine call_meets F.slot_list_append ⟨_, e, rfl⟩ F.entry_list_append (F.args_list_append_2 _ _) (PySem.list_append a its.toArray n u2 (by rw [List.size_toArray]; omega)) ⟨e, ?_⟩
  refine wpAny_execs_nil ⟨σ, _, I2.lset (its' := its ++ [u2]) hH e (by simp) (r.append (.cons r2 .nil)) (by rw [List.length_append, List.length_singleton]; omega), (S1.trans S2).trans ⟨rfl, Nat.le_of_eq (Heap.size_update _ _ _).symm, fun b o eb nb _ => ?_⟩, q⟩
  have hb : b ≠ a := fun z => by rw [z, hH] at nb; cases nb
  exact ⟨(Heap.get?_update_other _ _ (Ne.symm hb)).trans eb, by rw [upd_ne hb]; exact nb⟩
end
end L2

set_option Elab.async false
set_option linter.all false
set_option maxRecDepth 100000
set_option maxHeartbeats 4000000
/-! for x in f(..): over a generator def's call -/
namespace L2
open PySem PySem.Spec PyProof.Rows GenW
/-- what stands in the consumer's frame lies below n₀ -/
structure LowX (X : Cx) (pins : List (Addr × Obj)) (n₀ : Nat) : Prop where
  s0 : X.s_0.heap.objs.size ≤ n₀
  loc : X.env.locals < n₀
  cell : ∀ x c, X.env.cells.lookup x = some c → c < n₀
  pin : ∀ p ∈ X.pn ++ pins, p.1 < n₀
section
variable {X : Cx} {pins : List (Addr × Obj)} {σ : St} {H H1 : Hp} {s s1 : Shared} {n₀ : Nat}
theorem Inv.low (I : Inv X pins σ H s) : LowX X pins s.heap.objs.size :=
  ⟨I.sz, I.lt, fun x c e => let ⟨_, _, ho, _⟩ := I.cell x c e; Heap.lt_size ho, fun p hp => Heap.lt_size (I.pin p hp).1⟩
theorem Inv.gensTo (I : Inv X pins σ H s) {G : Array GenState} (h : AllBare G) : Inv X pins σ H { s with gens := G } :=
  I.call' (ch := []) rfl Un.refl I.hok h fun _ z => nomatch z
/-- the places from n₀ on -/
def upFrom (n₀ : Nat) (h : Heap) : List Addr := (List.range h.objs.size).filter fun b => decide (n₀ ≤ b)
theorem upFrom_not {h : Heap} {b : Addr} {o : Obj} (e : h.get? b = some o) (hb : b ∉ upFrom n₀ h) : b < n₀ := by
  refine Nat.lt_of_not_le fun z => hb (List.mem_filter.mpr ⟨List.mem_range.mpr (Heap.lt_size e), decide_eq_true z⟩)
theorem LowX.up (L : LowX X pins n₀) {h : Heap} : ∀ b ∈ upFrom n₀ h, (b ∈ X.ex ∨ X.s_0.heap.objs.size ≤ b) ∧ b ≠ X.env.locals ∧ (∀ x c, X.env.cells.lookup x = some c → c ≠ b) ∧ ∀ p ∈ X.pn ++ pins, p.1 ≠ b := fun b hb => by
  have hn : n₀ ≤ b := of_decide_eq_true (List.mem_filter.mp hb).2
  refine ⟨.inr (Nat.le_trans L.s0 hn), fun z => ?_, fun x c e z => ?_, fun p hp z => ?_⟩
  · rw [z] at hn; exact absurd (Nat.lt_of_lt_of_le L.loc hn) (Nat.lt_irrefl _)
  · rw [← z] at hn; exact absurd (Nat.lt_of_lt_of_le (L.cell x c e) hn) (Nat.lt_irrefl _)
  · rw [← z] at hn; exact absurd (Nat.lt_of_lt_of_le (L.pin p hp) hn) (Nat.lt_irrefl _)
/-- behind a stretch of the generator -/
theorem Inv.stretch (I : Inv X pins σ H s) (L : LowX X pins n₀) (u : Un (frs X.stack) [] H H1 (headH s.heap n₀) s1.heap) (hok : HOk X.prog X.w H1 s1.heap) (os : s1.os = s.os) (ag : AllBare s1.gens) : Inv X pins σ H1 s1 := by
  have hh : ∀ b o, s.heap.get? b = some o → b ∉ upFrom n₀ s.heap → (headH s.heap n₀).get? b = some o := fun b o e hb => (headH_get (upFrom_not e hb)).trans e
  exact I.call' (ch := upFrom n₀ s.heap) os ⟨fun b o e n hb hc => u.keep b o (hh b o e hc) n hb (fun z => nomatch z), fun b o e n hb hc => u.slot b o (hh b o e hc) n hb (fun z => nomatch z), fun b o e n hc => u.free b o (hh b o e hc) n (fun z => nomatch z),
    fun b o e hc => u.there b o (hh b o e hc) (fun z => nomatch z), u.tups, u.frzs, u.tbls⟩ hok ag L.up
/-- an exception that the generator let out -/
theorem XE.of_stretch {W : WX} {E : XK} (I : Inv X pins σ H s) (L : LowX X pins n₀) (hn : n₀ ≤ s.heap.objs.size) (hW : ∀ cls d H', E cls d H' → W cls d σ H') {u : Value} {G : Array GenState} (c : CX X.prog X.w X.stack H (headS s n₀) E u s1) (hG : AllBare G) : XE X W u { s1 with gens := G } := by
  obtain ⟨a, B, H', cls, d, rfl, fl, hok, ub, na, os, ag, hE⟩ := c
  obtain ⟨R, g1, g2⟩ := restrict s1.heap fun b => (B.get? b).isSome || decide (b ∈ frs X.stack)
  have st : B.StaysIn s1.heap := fl.1
  have gB : ∀ b o, B.get? b = some o → R.get? b = some o := fun b o e => (g1 b (by rw [e]; rfl)).trans (st b o e)
  have gF : ∀ b, b ∈ frs X.stack → R.get? b = s1.heap.get? b := fun b hb => g1 b (by simp [hb])
  have og : ∀ b o, R.get? b = some o → s1.heap.get? b = some o ∧ ((B.get? b).isSome = true ∨ b ∈ frs X.stack) := fun b o e => by
    cases q : ((B.get? b).isSome || decide (b ∈ frs X.stack)) with
    | false => rw [g2 b q] at e; cases e
    | true => exact ⟨by rw [← g1 b q]; exact e, by simpa [Bool.or_eq_true] using q⟩
  have hh : ∀ b o, s.heap.get? b = some o → b ∉ upFrom n₀ s.heap → (headS s n₀).heap.get? b = some o := fun b o e hb => (headH_get (upFrom_not e hb)).trans e
  refine ⟨a, B, { s with heap := R, gens := G, drawn := s1.drawn, toks := s1.toks }, pins, σ, H', cls, d, rfl, ?_, fun b o e hb => ?_, Heap.UpToSlots.of_keeps fun b o e => (og b o e).1, .inr (.inl fl), na, os, hG, hW _ _ _ hE⟩
  · refine I.call (ch := upFrom n₀ s.heap) ⟨fun b o e n hb hc => gB b o (ub.keep b o (hh b o e hc) n hb), fun b o e n hb hc => ?_, fun b o e n hc => ub.free b o (hh b o e hc) n, fun b o e hc => ?_, ub.tups, ub.frzs, ub.tbls⟩ (hok.kept gB) hG L.up
    · obtain ⟨sl, q⟩ := ub.slot b o (hh b o e hc) hb
      exact ⟨sl, by rw [gF b hb]; exact q⟩
    · by_cases hb : b ∈ frs X.stack
      · obtain ⟨sl, q⟩ := ub.slot b o (hh b o e hc) hb
        exact ⟨_, by rw [gF b hb]; exact q⟩
      · obtain ⟨o', q⟩ := ub.there b o (hh b o e hc) hb
        exact ⟨o', gB b o' q⟩
  · obtain ⟨e', h⟩ := og b o e
    rcases h with h | h
    · obtain ⟨o', q⟩ := Option.isSome_iff_exists.mp h
      rw [q]
      exact (st b o' q).symm.trans e'
    · exact absurd h hb
end
section
variable {X : Cx} {k : Nat} {f : Addr} {fd : FuncData} {ps : List Str} {sp : SpG3} {x : Str} {p pos pos2 : Pos} {e : Expr} {es : List Expr} {ta : TA} {tg : Expr} {gt : TG} {body : List Stmt} {tb : TS} {W : WX}
/-- Cσ: the consumer's slots, by what is out; kp: what a turn does to the heap. K: X.K, named -/
def tForG (K : PySem.W.Frag) (sp : SpG3) (ta : TA) (gt : TG) (tb : TS) (W : WX) : TS := fun D σ H => ta σ H fun vs H1 => ∃ (Cσ : List V → St → Prop) (kp : List V → V → Hp → Hp → Prop), Cσ [] σ ∧ ∀ cs,
  sp vs H1 ⟨cs, fun ys x H2 => ∀ σ', Cσ ys σ' → gt x σ' H2 fun σ2 H3 => tb { D with nx := fun σ3 H4 => Cσ (ys ++ [x]) σ3 ∧ kp ys x H2 H4, ct := fun σ3 H4 => Cσ (ys ++ [x]) σ3 ∧ kp ys x H2 H4, bk := D.nx } σ2 H3, kp, []⟩
    (fun ys H' => ∀ σ', Cσ ys σ' → D.nx σ' H') (fun cls d H' => PySem.W.subIn K cls (.type "StopIteration") = some false ∧ ∀ ys σ', Cσ ys σ' → W cls d σ' H')
theorem ps_forG {K : PySem.W.Frag} (hK : X.K = K) (O : OwnG3 X.prog X.w X.K X.mg X.base x k ps sp) (tk : Takes X W) (hp : PassesOwn (model X.prog X.w) X.A X.env X.xe) (room : Room (k + 1) X.A) (hcm : X.calm = true) (ha : PA X (e :: es) ta) (hg : PGq X tg gt) (hb : PBq X body tb) (hgl : Gl X x := by rfl)
    (hdb : (x == ("__debug__" : Str)) = false := by decide) (he : starEach (e :: es) X.env = (false, eval e X.env) :: starEach es X.env := by rfl) (hpl : (backTo pos2 (starEach es X.env)).any (·.1) = false := by rfl)
    (hs : ∀ y, foldedSetIterable (.Call (.Name x p) (e :: es) [] pos2) X.env y = pure y := by intro _; rfl) : PS X (.For tg (.Call (.Name x p) (e :: es) [] pos2) body [] pos) (tForG K sp ta gt tb W) := by
  subst hK
  obtain ⟨f, fd, G, hm, hk, hbd⟩ := O.ex
  refine ⟨fun pins s σ H D I h => ?_⟩
  refine wpAny_For (wpAny_Call_Name_kw (ld_glob I hgl hm (PySem.W.callWith_K (h₀ := X.base) I.ok.mod.kin hk (thn (ha.run pos2 pins s σ H _ I h) fun us s1 ⟨vs, H1, I1, r, Cσ, kp, c0, q⟩ => ⟨I1.kIn, ?_⟩) he hpl) hdb)) hs
  have q := q fun ys H' s' => ∃ σ', Inv X pins σ' H' s' ∧ Cσ ys σ'
  revert q
  generalize hDl : (⟨fun ys H' s' => ∃ σ', Inv X pins σ' H' s' ∧ Cσ ys σ', _, kp, []⟩ : Deal) = Dl
  intro q
  have hl2 : us.length = ps.length := by rw [← r.length]; exact G.len _ _ _ _ _ q
  have hbs := hbd s1 us I1.kIn (by rw [List.append_nil]; exact hl2)
  rw [List.append_nil] at hbs
  refine wpAny_call (codeAny_mono (G.run X.A X.stack s1 H1 ⟨us, []⟩ us vs (fun Dl' Q' => Dl' = Dl ∧ Q' = fun ys H' => ∀ σ', Cσ ys σ' → D.nx σ' H') _ ⟨_, _, rfl, rfl⟩ (room.mono (Nat.le_succ k)) I1.env0 hbs r (fun Dl' Q' z => by obtain ⟨rfl, rfl⟩ := z; exact q)) fun r s2 hq => ?_)
  cases r with
  | error _ => exact hq.elim
  | ok fl =>
  cases fl with
  | next => exact hq.elim
  | brk => exact hq.elim
  | cont => exact hq.elim
  | ret u =>
  obtain ⟨a, g, c, go, rfl, ha1, ha2, hgo, isg, hgs, hos, hba, hkp, wake⟩ := hq
  have I2 : Inv X pins σ H1 s2 := I1.call' (ch := []) hos (Un.kept hkp) (I1.hok.kept hkp) hba fun _ z => nomatch z
  refine wpAny_pyIter_gen (isg _ hgo) ?_
  have L : LowX X pins s1.heap.objs.size := I1.low
  have hfrF : ∀ b ∈ frs X.stack, b < s1.heap.objs.size := fun b hb => by
    obtain ⟨_, o, ho, _⟩ := I1.stack.mem hb
    exact Heap.lt_size ho
  have hgl2 : g < s2.gens.size := (Array.getElem?_eq_some_iff.mp hgs).1
  have mkWk : ∀ {pins' σ' H' s'}, Inv X pins' σ' H' s' → s1.heap.objs.size ≤ s'.heap.objs.size → Wk X.prog X.w X.base X.stack s1.heap.objs.size [] H' s' := fun I' hz =>
    ⟨I'.bare, I'.bs, I'.stack, fun b hb => ⟨hfrF b hb, I'.stkFree b hb⟩, I'.hok, hz, fun _ z => nomatch z⟩
  refine codeAny_forLoop_any (fun n s' => ∃ gs σ' H', s'.gens[g]? = some gs ∧ gs.Goes (model X.prog X.w) X.A.in1 (End3 X.prog X.w X.stack s1.heap.objs.size Dl (fun ys H' => ∀ σ', Cσ ys σ' → D.nx σ' H') (fun cls d H' => PySem.W.subIn X.K cls (.type "StopIteration") = some false ∧ ∀ ys σ', Cσ ys σ' → W cls d σ' H') a g)
    (GY3 X.prog X.w X.base X.stack [(a, go)] s1.heap.objs.size Dl) n (.send .none) (s'.setGen g .running) ∧ s'.heap.get? a = some go ∧ Inv X pins σ' H' s') ?_ sizeLine ⟨_, σ, H1, hgs, ⟨rfl, ?_⟩, hgo, I2⟩
  · rintro n s3 ⟨gs, σ3, H3, hgs3, hgoes, hgo3, I3⟩
    have hgl3 : g < s3.gens.size := (Array.getElem?_eq_some_iff.mp hgs3).1
    have hcd : ∃ nm qn, go.cls = .type "generator" ∧ go.data = .fields #[.int g 0, nm, qn] := by
      obtain ⟨o, nm, qn, ho, hc, hd, _⟩ := isg _ hgo
      rw [hgo] at ho; cases ho
      exact ⟨nm, qn, hc, hd⟩
    obtain ⟨nm, qn, hgc, hgd⟩ := hcd
    refine wpAny_passesOwn hp (wpAny_gsz (n := g + 1) hgl3 (next_genG (A := X.A) (I3.ok.hd hcm) I3.nolimit room.depth (isg _ hgo3) hgs3 hgoes (fun v s4 gs' hbare hv => ?_) (fun s4 hf h' hk' => ?_) fun er s4 her => ?_))
    · obtain ⟨ys, x1, HE, H4, mine, hn, rv, hcs, hz, un, os4, ag4, hok4, hpn, hz4, _, yd, hmine, _, wakes⟩ := hv
      intro hsz
      subst hDl
      obtain ⟨σE, IE, cE⟩ := hcs
      have hsz4 : g < s4.gens.size := by
        have z : (s4.setGen g gs').gens.size = s4.gens.size := setGen_size _ _ _
        have z2 : g + 1 ≤ (s4.setGen g gs').gens.size := hsz
        omega
      have I4 : Inv X pins σE H4 (s4.setGen g gs') := (IE.stretch L un hok4 os4 ag4).gensTo (allBare_setGen ag4 hbare)
      have hgo4 : s4.heap.get? a = some go := (hpn _ (List.mem_singleton.mpr rfl)).1
      refine go_of (s := s4.setGen g gs') hgo4 hgc hgd (by decide) ?_
      refine wpAny_passesOwn hp (thn (hg.run pins _ σE H4 x1 v _ I4 rv (yd σE cE)) fun _ s5 ⟨σ5, H5, I5, S5, q5⟩ => ?_)
      refine wpAny_passesOwn hp (thn (hb.run pins s5 σ5 H5 _ I5 q5) fun fl s6 q6 => ?_)
      have on : ∀ {σ6 : St} {H6 : Hp}, Inv X pins σ6 H6 s6 → Soft X s5 H5 s6 H6 → Cσ (ys ++ [x1]) σ6 ∧ kp ys x1 H4 H6 → ∃ m, m < n ∧ ∃ gs σ' H', s6.gens[g]? = some gs ∧ gs.Goes _ X.A.in1 _ _ m (.send .none) (s6.setGen g .running) ∧ s6.heap.get? a = some go ∧ Inv X pins σ' H' s6 := fun {σ6 H6} I6 S6 n6 => by
        have S := S5.trans S6
        have hgs6 : s6.gens[g]? = some gs' := by rw [S.gens]; exact setGen_at hsz4
        have I6r : Inv X pins σ6 H6 (s6.setGen g .running) := I6.gensTo (allBare_setGen I6.bare rfl)
        have wk := wakes H6 (s6.setGen g .running) (mkWk I6r (Nat.le_trans hz4 S.size)) ⟨σ6, I6r, n6.1⟩ (fun b mb o e => S.keep b o e (hmine b mb).1 (hmine b mb).2.1) n6.2
        have hna : H4 a = none := (hpn _ (List.mem_singleton.mpr rfl)).2
        cases n with
        | zero => exact False.elim wk
        | succ m => exact ⟨m, Nat.lt_succ_self m, gs', σ6, H6, hgs6, wk, (S.keep a go hgo4 hna (fun z => absurd (hfrF a z) (Nat.not_lt.mpr ha1))).1, I6⟩
      cases fl with
      | next => obtain ⟨σ6, H6, I6, S6, n6⟩ := q6; exact on I6 S6 n6
      | cont => obtain ⟨σ6, H6, I6, S6, n6⟩ := q6; exact on I6 S6 n6
      | brk => exact q6
      | ret v => exact q6
    · obtain ⟨ys, HE, H4, hcs, hz, os4, ag4, un, hok4, _, hQ⟩ := hf
      intro _
      subst hDl
      obtain ⟨σE, IE, cE⟩ := hcs
      have I4 : Inv X pins σE H4 (s4.setGen g .finished) := (IE.stretch L un hok4 os4 ag4).gensTo (allBare_setGen ag4 rfl)
      have I5 : Inv X pins σE H4 { s4.setGen g .finished with heap := h' } := I4.call' (ch := []) rfl (Un.kept hk') (I4.hok.kept hk') I4.bare fun _ z => nomatch z
      exact wpAny_passesOwn hp (wpAny_execs_nil ⟨σE, H4, I5, hQ σE cE⟩)
    · obtain ⟨ys, HE, sE, hcs, hz, cx, hge⟩ := her
      subst hDl
      obtain ⟨σE, IE, cE⟩ := hcs
      have ag4 : AllBare s4.gens := by obtain ⟨_, _, _, _, _, _, _, _, _, _, _, ag, _⟩ := cx; exact ag
      refine ⟨hge, notStop_of (E := fun cls d H' => PySem.W.subIn X.K cls (.type "StopIteration") = some false ∧ ∀ ys σ', Cσ ys σ' → W cls d σ' H') (fun _ _ _ z => z.1) (IE.ok.mod.kin.keeps fun b o eb => ?_) cx, fun _ => tk _ _ (XE.of_stretch IE L hz (fun _ _ _ z => z.2 ys σE cE) cx (allBare_setGen ag4 rfl))⟩
      obtain ⟨a', B, H', cls, d, z1, fl, z2, ub, _⟩ := cx
      have hb0 := IE.bs b o eb
      refine fl.1 b o (ub.keep b o ((headH_get ?_).trans hb0.1) hb0.2 fun hm => ?_)
      · exact Nat.lt_of_lt_of_le (Heap.lt_size (I1.ok.bs b o eb).1) L.s0
      · have := (IE.stack.mem hm).1
        rw [eb] at this; cases this
  · subst hDl
    exact wake X.A.in1 (s2.setGen g .running) _ _ ⟨rfl, rfl⟩ room.in1 I1.ok.frames (fun _ _ e => e) hos (allBare_setGen hba rfl) (fun _ z => nomatch z) ⟨σ, I2.gensTo (allBare_setGen hba rfl), c0⟩
end
end L2

set_option Elab.async false
set_option linter.all false
set_option maxRecDepth 100000
set_option maxHeartbeats 4000000
/-! enumerate(xs, start=k) over a list -/
namespace L2
open PySem PySem.Spec PyProof.Rows
section
variable {M : Model} {A : Around} {E : Value → Shared → Prop} {s : Shared} {env : Env}
theorem callWith_typeKw {pos : Pos} {T : String} {e : Expr} {rest : List Expr} {kws : List Keyword} {Q : Value → Shared → Prop}
    (h : wpAny M A (spliced (backTo pos (starEach (e :: rest) env))) (fun vs s1 => wpAny M A (evalAll ((backToKw pos (keywordEach kws env)).map (·.2))) (fun ks s2 => wpAny M A (call (.type T) vs (((backToKw pos (keywordEach kws env)).filterMap (·.1)).zip ks)) Q E s2) E s1) E s)
    (he : backTo pos (starEach (e :: rest) env) = (false, eval e env) :: backTo pos (starEach rest env)) (hpl : (backTo pos (starEach (e :: rest) env)).any (·.1) = false)
    (hall : (backToKw pos (keywordEach kws env)).all (·.1.isSome) = true) (hno : (backToKw pos (keywordEach kws env)).any (·.1.isNone) = false) :
    wpAny M A (callWith pos (.type T) [] (backTo pos (starEach (e :: rest) env)) (backToKw pos (keywordEach kws env))) Q E s := by
  have h2 : wpAny M A (evalArgs (.type T) true (backTo pos (starEach (e :: rest) env)) (backToKw pos (keywordEach kws env))) (fun a s1 => wpAny M A (call (.type T) ([] ++ a.pos) a.kw) Q E s1) E s := by
    rw [he] at h ⊢
    exact PyProof.Rows.evalArgs_kwB hall h
  unfold callWith
  refine wpAny_bind (wpAny_holding (wpAny_mono h2 (fun a s1 h1 => wpAny_bind (wpAny_standAt ?_)) fun _ _ x => x))
  simp only [hpl, hno, Bool.or_false]
  refine wpAny_bind (wpAny_pure ?_)
  exact wpAny_bind (wpAny_mono h1 (fun r s2 hr => wpAny_bind (wpAny_holding (wpAny_point (wpAny_pure hr)))) fun _ _ x => x)
end
/-- the list at a, each item in a new pair with its number from k on -/
def Itef (K : PySem.W.Frag) (a : Addr) (k : Int) : It :=
  ⟨fun i H => ∃ xs : List V, SqL K H a xs ∧ i < xs.length, fun i H v H' => ∃ T x, v = .ref T ∧ H T = none ∧ H' = upd H T (.tup [.int (k + (i : Nat)), x]) ∧ ∀ xs, SqL K H a xs → xs[i]? = some x, fun i H => ∃ xs : List V, SqL K H a xs ∧ xs.length = i⟩
theorem turn_enF {P : Program} {w : World} {K : PySem.W.Frag} {elts : List Expr} {kk : Nat} {tpos : Pos} (k : Int) (a e it : Addr) (hea : e ≠ a) (hia : a ≠ it) :
    Turn P w K (.Tuple elts kk tpos) (Itef K a k) [e, it] e (fun i h => (∃ old, IsEnum h e it (k + ((i : Nat) : Int)) old) ∧ h.IsListIter it a i ∧ e ≠ it) where
  mem := List.mem_cons_self
  obj := by
    intro i h ⟨⟨old, he⟩, ⟨o, ho, _, hd⟩, _⟩ b hb
    rcases List.mem_cons.mp hb with rfl | z
    · exact ⟨_, he, by intro v q; cases q⟩
    · cases List.mem_singleton.mp z
      exact ⟨o, ho, by intro v q; rw [hd] at q; cases q⟩
  keep := fun i h h' ⟨⟨old, he⟩, hi, hne⟩ st => ⟨⟨old, st e List.mem_cons_self _ he⟩, hi.at fun o q => st it (List.mem_cons_of_mem _ List.mem_cons_self) o q, hne⟩
  item := by
    intro X hP hw hK hc i pins s σ H E I hf ⟨⟨old, he⟩, hit, hne⟩ ⟨xs, hq, hx⟩
    subst hP hw hK
    obtain ⟨its, rv, p, hz⟩ := I.list hq
    have hl := rv.length
    have elt := Heap.lt_size he
    have ilt : it < s.heap.objs.size := let ⟨_, q, _⟩ := hit; Heap.lt_size q
    have D := Draws.list (prog := X.prog) (w := X.w) (A := X.A.in1) (I.ok.hd hc) it a hia its.toArray
    refine wpAny_pyNext_enum_itemC D he (i := i) ⟨hit, p.isList⟩ (by rw [List.size_toArray]; omega) hne (by simp [hne, hea]) fun u h' tk hP ho hst' hT hsz hk => ?_
    have hu : its[i]? = some u := by simpa using hP
    have hxx : xs[i]? = some xs[i] := List.getElem?_eq_getElem hx
    obtain ⟨u', hu', ru'⟩ := rv.get hxx
    obtain rfl : u' = u := Option.some.inj (hu'.symm.trans hu)
    refine ⟨_, rfl, wpAny_letOwnedTupleGo_enum (s := { s with heap := h', toks := tk + 1 }) ho fun h2 he2 sb => ?_⟩
    have hT2 := (sb.2 _ (Nat.ne_of_gt elt)).trans hT
    have I1 : Inv X pins σ (upd H s.heap.objs.size (.tup [.int (k + (i : Nat)), xs[i]])) { s with heap := h2, toks := tk + 1 } :=
      I.turnedNew (ch := [e, it]) (fun b ob hb q => (sb.2 b fun z => hb (by rw [z]; exact List.mem_cons_self)).trans (hk b ob (fun z => hb (by rw [z]; exact List.mem_cons_self)) (fun z => hb (by rw [z]; exact List.mem_cons_of_mem _ List.mem_cons_self)) q)) hf (Nat.le_refl _)
        ⟨by show 2 ≤ sizeLine; decide, [.int (k + (i : Nat)) tk, u'], .cons ⟨_, rfl⟩ (.cons ru' .nil), ⟨_, hT2, rfl, _, rfl⟩⟩
    refine ⟨.ref s.heap.objs.size, _, I1, rfl, ⟨_, xs[i], rfl, I.hok.fresh (Nat.le_refl _), rfl, fun ys hy => by rw [I.list_inj hy hq]; exact hxx⟩, ⟨⟨u', ?_⟩, hst'.1.at fun o q => (sb.2 it (Ne.symm hne)).trans q, hne⟩, fun b hb => ?_⟩
    · rw [show k + ((i + 1 : Nat) : Int) = k + (i : Int) + 1 by omega]; exact he2
    · have hb' : b < s.heap.objs.size := (List.mem_cons.mp hb).elim (fun z => z ▸ elt) fun z => List.mem_singleton.mp z ▸ ilt
      rw [upd_ne (Nat.ne_of_lt hb')]; exact (hf b hb).1
  done := by
    intro X hP hw hK hc i pins s σ H E I hf ⟨⟨old, he⟩, hit, hne⟩ ⟨xs, hq, hx⟩
    subst hP hw hK
    obtain ⟨its, rv, p, hz⟩ := I.list hq
    have hl := rv.length
    obtain ⟨f0, f1, f2, f3, f4, f5⟩ := hf it (List.mem_cons_of_mem _ List.mem_cons_self)
    have D := Draws.list (prog := X.prog) (w := X.w) (A := X.A.in1) (I.ok.hd hc) it a hia its.toArray
    have ei : i = its.toArray.size := by rw [List.size_toArray]; omega
    exact wpAny_pyNext_enum_endD D he (by rw [← ei]; exact ⟨hit, p.isList⟩) fun h' eb => ⟨rfl, I.turned (t' := s.toks) (fun b o hb q => eb b o hb q) f0 f1 f3 f4 f5⟩
  self := fun A i s Q E ⟨⟨_, he⟩, _⟩ h => wpAny_pyIter_enum he h
def iEnF (K : PySem.W.Frag) (k : Int) (ta : TA) : TI := fun σ H R => ta σ H fun vs H1 => ∃ a xs, vs = [.ref a] ∧ SqL K H1 a xs ∧ R (Itef K a k) H1
theorem pi_enF {X : Cx} {K : PySem.W.Frag} (hK : X.K = K) {e : Expr} {ta : TA} {p pos tpos p2 p3 : Pos} {elts : List Expr} {kk j : Nat} {k : Int} (h0 : -(2 ^ 63) ≤ k) (h1 : k < 2 ^ 63) (hg : Gl X "enumerate") (hm : X.mg "enumerate" = none) (ha : PA X [e] ta)
    (he : backTo pos (starEach [e] X.env) = (false, eval e X.env) :: backTo pos (starEach [] X.env) := by rfl) (hpl : (backTo pos (starEach [e] X.env)).any (·.1) = false := by rfl) (hall : (backToKw pos (keywordEach [⟨some "start", .Constant (.int k) j p2, p3⟩] X.env)).all (·.1.isSome) = true := by rfl)
    (hno : (backToKw pos (keywordEach [⟨some "start", .Constant (.int k) j p2, p3⟩] X.env)).any (·.1.isNone) = false := by rfl) (hks : (backToKw pos (keywordEach [⟨some "start", .Constant (.int k) j p2, p3⟩] X.env)).filterMap (·.1) = [Str.ofString "start"] := by rfl) :
    PI X (.Tuple elts kk tpos) (.Call (.Name "enumerate" p) [e] [⟨some "start", .Constant (.int k) j p2, p3⟩] pos) (iEnF K k ta) := by
  subst hK
  refine ⟨fun pins s σ H R I h => wpAny_Call_Name_kw (ld_blt I hg hm boot_enumerate (callWith_typeKw (thn (ha.run pos pins s σ H _ I h) fun us s1 ⟨vs, H1, I1, r1, a, xs, ex, hq, q⟩ => ?_) he hpl hall hno))⟩
  subst ex
  obtain rfl := Vals.ref1 r1
  refine PyProof.Rows.kws_cons (thn ((pe_int (X := X) (i := k) (j := j) (pos := p2)).run pins s1 σ H1 (fun v H' => v = .int k ∧ H' = H1) I1 ⟨rfl, rfl⟩) fun v s2 ⟨x, H2, I2, rv, e1, e2⟩ => PyProof.Rows.kws_nil ?_)
  subst e1 e2
  obtain ⟨t, rfl⟩ := rv
  obtain ⟨its, rvs, p', hz⟩ := I2.list hq
  have hlt : a < s2.heap.objs.size := let ⟨_, q, _⟩ := p'.isList; Heap.lt_size q
  rw [hks]
  refine enum_begins_start (begins_list a its.toArray) p'.isList h0 h1 fun h' he hit hsz hk => wpAny_pyIter_enum he ?_
  have I3 : Inv X pins σ H2 { s2 with heap := h' } := I2.kept (t' := s2.toks) hk
  have two : ∀ b, b ∈ [s2.heap.objs.size + 1, s2.heap.objs.size] → s2.heap.objs.size ≤ b := fun b hb => (List.mem_cons.mp hb).elim (fun z => by rw [z]; exact Nat.le_succ _) fun z => by rw [List.mem_singleton.mp z]; exact Nat.le_refl _
  exact ⟨s2.heap.objs.size + 1, [s2.heap.objs.size + 1, s2.heap.objs.size], _, _, H2, rfl, I3, turn_enF k a (s2.heap.objs.size + 1) s2.heap.objs.size (Nat.ne_of_gt (Nat.lt_succ_of_lt hlt)) (Nat.ne_of_lt hlt), ⟨⟨.none, by rw [show k + ((0 : Nat) : Int) = k by omega]; exact he⟩, ⟨_, hit, rfl, rfl⟩, Nat.succ_ne_self _⟩, fun b hb => I2.fpOk (two b hb) (I2.hok.fresh (two b hb)), q⟩
theorem walk_enF {K : PySem.W.Frag} {a : Addr} {k : Int} {xs : List V} : Walk (Itef K a k) xs.length (fun H => SqL K H a xs) (YPair (fun i => some (.int (k + (i : Nat)))) (fun i => xs[i]?)) := by
  refine ⟨fun i _ hi q => ⟨xs, q, hi⟩, fun _ q => ⟨xs, q, rfl⟩, fun i H v H' _ q ⟨T, x, e1, e2, e3, e4⟩ => ⟨T, .int (k + (i : Nat)), x, e1, e2, e3, rfl, e4 xs q⟩⟩
end L2

set_option Elab.async false
set_option linter.all false
set_option maxRecDepth 100000
set_option maxHeartbeats 4000000
/-! one reading for both kinds of promise: list(f(..)) wants a deal that keeps the heap as it is -/
namespace L2
open PySem PySem.Spec PyProof.Rows GenW
/-- a deal with a consumer that leaves the heap as it is -/
def Deal.Still (Dl : Deal) : Prop := ∀ ys x H, Dl.yd ys x H → Dl.kp ys x H H
section
variable {X : Cx} {Dl : Deal} {e : Expr} {yp pos : Pos} {te : TE}
theorem gs_yield3 (hD : Dl.Still) (he : PE X e te) (hco : X.env.scope.isCoroutine = false := by rfl) (hi : interactive X.env = false := by rfl) : GS X (.Expr (.Yield (some e) yp) pos) (tYield3 Dl te) := by
  have hw : PE X e (fun σ H Q => ∃ Q0, te σ H Q0 ∧ ∀ x H1, Q0 x H1 → Q x H1) := ⟨fun pins s σ H Q I ⟨Q0, h0, hq⟩ => thn (he.run pins s σ H Q0 I h0) fun u s' ⟨x, H', I', r, q⟩ => ⟨x, H', I', r, hq x H' q⟩⟩
  refine ⟨fun A S ip R n ys s₀ c fs K J gd lv s σ H D g hn k hI ht => (gs_yield hw hco hi).run A S ip R n ys s₀ c fs K J gd lv s σ H D g hn k hI ⟨ht.1, _, ht.2, fun x H1 q => q.2 H1 (hD ys x H1 q.1)⟩⟩
end
end L2

set_option Elab.async false
set_option linter.all false
set_option maxRecDepth 100000
set_option maxHeartbeats 4000000
/-! rules with K named, for what stands within a generator whose contexts change -/
namespace L2
open PySem PySem.Spec PyProof.Rows GenW
section
variable {X : Cx} {K : PySem.W.Frag} {o e : Expr} {es : List Expr} {to te : TE} {t : TA} {name : Str} {apos cpos pos p : Pos} {T id : String} {r : V → List V → Hp → VK → Prop}
theorem pe_bm0N (hK : X.K = K) (pa : PlainAttrs T) (slot : Slot T name id) (hty : typeOf (.builtin id) = pure (.type "method_descriptor")) (hm : MtR X id r) (ho : PE X o to) (hbase : attributeBase o name X.env (eval o X.env) = eval o X.env := by rfl)
    (hline : (apos.endLine == cpos.line) = true := by rfl) : PE X (.Call (.Attribute o name apos) [] [] cpos) (tBM0 K T r to) := by subst hK; exact pe_bm0 pa slot hty hm ho hbase hline
theorem pe_bmN (hK : X.K = K) (pa : PlainAttrs T) (slot : Slot T name id) (hty : typeOf (.builtin id) = pure (.type "method_descriptor")) (hm : MtR X id r) (ho : PE X o to) (ha : PA X (e :: es) t) (hbase : attributeBase o name X.env (eval o X.env) = eval o X.env := by rfl)
    (hfew : ((backTo cpos (starEach (e :: es) X.env)).all (fun x => !x.1) && (backToKw cpos (keywordEach [] X.env)).all (fun x => x.1.isSome) && decide ((e :: es).length + ([] : List Keyword).length + (if ([] : List Keyword).isEmpty then 0 else 1) < 30)) = true := by rfl)
    (hline : (apos.endLine == cpos.line) = true := by rfl) (hs : starEach (e :: es) X.env = (false, eval e X.env) :: starEach es X.env := by rfl) (hplain : (backTo cpos (starEach es X.env)).any (·.1) = false := by rfl) :
    PE X (.Call (.Attribute o name apos) (e :: es) [] cpos) (tBM K T r to t) := by subst hK; exact pe_bm pa slot hty hm ho ha hbase hfew hline hs hplain
theorem pg_tupN (hK : X.K = K) {es : List Expr} {k : Nat} {t : TGs} {n : Nat} (hc : X.calm = true) (h : PGs X es t) (hn : (assignEach es X.env).length = n := by rfl) (hst : (assignEach es X.env).findIdx? (·.1) = none := by rfl) :
    PG X (.Tuple es k pos) (gTup K n t) := by subst hK; exact pg_tup hc h hn hst
theorem pa_starN (hK : X.K = K) (he : PE X e te) (hr : PA X es t) (hs : starEach (.Starred e p :: es) X.env = (true, eval e X.env) :: starEach es X.env := by rfl) : PA X (.Starred e p :: es) (StX.tStar K te t) := by subst hK; exact StX.pa_star he hr hs
theorem pi_enSqN (hK : X.K = K) {ta : TA} {tpos : Pos} {elts : List Expr} {kk : Nat} (hg : Gl X "enumerate") (hm : X.mg "enumerate" = none) (ha : PA X [e] ta) (hs : starEach [e] X.env = [(false, eval e X.env)] := by rfl) :
    PI X (.Tuple elts kk tpos) (.Call (.Name "enumerate" p) [e] [] pos) (iEnSq K ta) := by subst hK; exact pi_enSq hg hm ha hs
end
end L2

set_option Elab.async false
set_option linter.all false
set_option maxRecDepth 100000
set_option maxHeartbeats 4000000
/-! a generator's for over anything that walks -/
namespace L2
open PySem PySem.Spec PyProof.Rows GenW
theorem gfor_it {J : It} {n : Nat} {G : Hp → Prop} {Y : Nat → Hp → V → Hp → Prop} (w : Walk J n G Y) {g : TG} {tb : TGn} {D : GEnds} {ys : List V} {σ : St} {H : Hp} (Pv : Nat → List V → St → Hp → Prop) (h0 : Pv 0 ys σ H) (hG : ∀ i ys σ H, i ≤ n → Pv i ys σ H → G H)
    (hs : ∀ i x ys σ H H', i < n → Pv i ys σ H → Y i H x H' → g x σ H' fun σ2 H2 => tb { D with nx := Pv (i + 1), ct := Pv (i + 1), bk := D.nx } ys σ2 H2) (hd : ∀ ys σ H, Pv n ys σ H → D.nx ys σ H) :
    ∃ W : Nat → Nat → List V → St → Hp → Prop, (∃ m, W 0 m ys σ H) ∧ ∀ i m ys σ H, W i m ys σ H →
      (J.stop i H ∧ D.nx ys σ H) ∨ (J.go i H ∧ ∃ N : List V → St → Hp → Prop, (∀ ys' σ' H', N ys' σ' H' → ∃ m', m' < m ∧ W (i + 1) m' ys' σ' H') ∧ ∀ x H', J.yld i H x H' → g x σ H' fun σ2 H2 => tb { D with nx := N, ct := N, bk := D.nx } ys σ2 H2) := by
  refine ⟨fun i m ys σ H => m = n - i ∧ i ≤ n ∧ Pv i ys σ H, ⟨n - 0, rfl, Nat.zero_le _, h0⟩, ?_⟩
  rintro i m ys σ H ⟨rfl, hi, pv⟩
  by_cases hlt : i < n
  · exact .inr ⟨w.goes i H hlt (hG i ys σ H hi pv), Pv (i + 1), fun ys' σ' H' q => ⟨n - (i + 1), by omega, rfl, hlt, q⟩, fun x H' hy => hs i x ys σ H H' hlt pv (w.yields i H x H' hlt (hG i ys σ H hi pv) hy)⟩
  · obtain rfl : i = n := by omega
    exact .inl ⟨w.stops H (hG i ys σ H hi pv), hd ys σ H pv⟩
end L2

set_option Elab.async false
set_option linter.all false
set_option maxRecDepth 100000
set_option maxHeartbeats 4000000
/-! [x for x in f(..)]: a comprehension over a generator def's call -/
namespace L2
open PySem PySem.Spec PyProof.Rows GenW
section
variable {P : Program} {w : World}
/-- a list of ours is tracked -/
theorem hok_track {H' : Hp} {h : Heap} {S : Addr} {its : List Value} {c : Nat} {out : List V} (hok : HOk P w H' h) (hn : H' S = none) (hlen : out.length ≤ sizeLine) (e : h.get? S = some { cls := .type "list", data := .seq its.toArray c }) (r : Vals out its) : HOk P w (upd H' S (.lst out)) h := fun b u q => by
  by_cases hb : b = S
  · subst hb
    rw [upd_same] at q
    cases q
    exact ⟨hlen, its, c, r, e⟩
  · rw [upd_ne hb] at q
    exact (hok b u q).stay (fun _ _ _ z => z) (fun d z => by rw [upd_ne (ne_of_none z hn)]; exact z) fun d xs z => by rw [upd_ne (ne_of_none z hn)]; exact z
end
section
variable {X : Cx} {pins : List (Addr × Obj)} {σ : St} {H : Hp} {s : Shared} {n₀ : Nat}
theorem LowX.apart (L : LowX X pins n₀) {b : Addr} (hn : n₀ ≤ b) : (b ∈ X.ex ∨ X.s_0.heap.objs.size ≤ b) ∧ b ≠ X.env.locals ∧ (∀ x c, X.env.cells.lookup x = some c → c ≠ b) ∧ ∀ p ∈ X.pn ++ pins, p.1 ≠ b := by
  refine ⟨.inr (Nat.le_trans L.s0 hn), fun z => ?_, fun x c e z => ?_, fun p hp z => ?_⟩
  · rw [z] at hn; exact absurd (Nat.lt_of_lt_of_le L.loc hn) (Nat.lt_irrefl _)
  · rw [← z] at hn; exact absurd (Nat.lt_of_lt_of_le (L.cell x c e) hn) (Nat.lt_irrefl _)
  · rw [← z] at hn; exact absurd (Nat.lt_of_lt_of_le (L.pin p hp) hn) (Nat.lt_irrefl _)
theorem Inv.track {S : Addr} {its : List Value} {c : Nat} {out : List V} (I : Inv X pins σ H s) (L : LowX X pins n₀) (hS : n₀ ≤ S) (hn : H S = none) (hlen : out.length ≤ sizeLine) (e : s.heap.get? S = some { cls := .type "list", data := .seq its.toArray c }) (r : Vals out its) : Inv X pins σ (upd H S (.lst out)) s := by
  refine I.call' (ch := [S]) rfl ⟨fun b o q _ _ _ => q, fun b o q _ _ _ => ⟨o.slots, q⟩, fun b o q z hc => ?_, fun b o q _ => ⟨o, q⟩, fun b xs q => ?_, fun b o u q => ?_, fun b ps q => ?_⟩ (hok_track I.hok hn hlen e r) I.bare fun b hb => ?_
  · rw [upd_ne fun y => hc (by rw [y]; exact List.mem_singleton.mpr rfl)]; exact z
  · rw [upd_ne (ne_of_none q hn)]; exact q
  · rw [upd_ne (ne_of_none q hn)]; exact q
  · exact ⟨#[], by rw [upd_ne (ne_of_none q hn), q]; simp⟩
  · rw [List.mem_singleton.mp hb]; exact L.apart hS
/-- only untracked places from n₀ on have changed -/
theorem Inv.far {s' : Shared} {ch : List Addr} (I : Inv X pins σ H s) (L : LowX X pins n₀) (os : s'.os = s.os) (hb : AllBare s'.gens) (hch : ∀ b ∈ ch, n₀ ≤ b ∧ H b = none) (k : ∀ b o, b ∉ ch → s.heap.get? b = some o → s'.heap.get? b = some o) : Inv X pins σ H s' := by
  refine I.call' (ch := ch) os ⟨fun b o q _ _ hc => k b o hc q, fun b o q _ _ hc => ⟨o.slots, k b o hc q⟩, fun b o q z hc => z, fun b o q hc => ⟨o, k b o hc q⟩, fun b xs q => q, fun b o u q => q, fun b ps q => ⟨#[], by rw [q]; simp⟩⟩ (fun b u q => ?_) hb fun b hb => L.apart (hch b hb).1
  refine (I.hok b u q).stay (fun c v hc z => k c v (fun y => ?_) z) (fun _ z => z) fun _ _ z => z
  have hz := (hch c y).2
  rcases hc with hc | hc
  · rw [hc, q] at hz; cases hz
  · rw [hz] at hc; cases hc
end
/-- the items stand in the new list, the heap is the generator's own -/
def tLcG (sp : SpG3) (ta : TA) : TE := fun σ H Q => ta σ H fun vs H1 => ∀ cs ad, sp vs H1 ⟨cs, fun _ _ _ => True, fun _ _ H2 H3 => H3 = H2, ad⟩ (fun ys H' => ∀ D, H1 D = none → H' D = none → Q (.ref D) (upd H' D (.lst ys))) (fun _ _ _ => False)
section
variable {X : Cx} {k : Nat} {ps : List Str} {sp : SpG3} {x y : Str} {p p1 p2 pos pos2 pos' : Pos} {e : Expr} {es : List Expr} {ta : TA} {scope : Scope} {use : Option (Value → Sem Unit)} {Qf : Value → Shared → Prop} {pins : List (Addr × Obj)} {s : Shared} {σ : St} {H : Hp} {Q : VK}
theorem lcG_core (hc : X.calm = true) (I : Inv X pins σ H s) (O : OwnG3 X.prog X.w X.K X.mg X.base x k ps sp) (room : Room (k + 1) X.A) (ha : PA X (e :: es) ta) (hkind : scope.kind = .function) (hfr : ∀ y ∈ scope.names, y.2 = .free → X.env.scope.names.lookup y.1 = some .cell ∨ X.env.scope.names.lookup y.1 = some .free)
    (hnm : ∀ x ∈ scope.names, x.2 = .local → scope.names.lookup x.1 = some .local) (hy : scope.names.lookup y = some .local) (hgl : Gl X x) (hdb : (x == ("__debug__" : Str)) = false) (hdy : (y == ("__debug__" : Str)) = false)
    (he : starEach (e :: es) X.env = (false, eval e X.env) :: starEach es X.env) (hpl : (backTo pos2 (starEach es X.env)).any (·.1) = false) (hs : ∀ z, foldedSetIterable (.Call (.Name x p) (e :: es) [] pos2) X.env z = pure z)
    (h : tLcG sp ta σ H Q)
    (hRR : ∀ D C s' m H', Inv X pins σ H' s' → Q (.ref D) H' → s'.heap.Ns C m → FpOk X pins H' C → compPost (model X.prog X.w) X.A X.xe use Qf (.ref D) C (.ok .next) s') :
    wpAny (model X.prog X.w) X.A (comprehension (.ListComp (.Name y p1) [⟨.Name y p2, .Call (.Name x p) (e :: es) [] pos2, [], 0⟩] scope pos) scope X.env pos' (newList []) false (eval (.Call (.Name x p) (e :: es) [] pos2) X.env) use) Qf X.xe s := by
  have hfree : ∀ y ∈ scope.names, y.2 = .free → ∃ c, X.env.cells.lookup y.1 = some c := fun y hy e => I.ok.has _ (hfr y hy e)
  obtain ⟨f, fd, G, hm, hk, hbd⟩ := O.ex
  refine wpAny_comprehension_free (use := use) rfl hs (closure_ok hfree) hkind hnm
    (wpAny_Call_Name_kw (ld_glob I hgl hm (PySem.W.callWith_K (h₀ := X.base) I.ok.mod.kin hk (thn (ha.run pos2 pins s σ H _ I h) fun us s1 ⟨vs, H1, I1, r, q⟩ => ⟨I1.kIn, ?_⟩) he hpl) hdb))
  have hl2 : us.length = ps.length := by rw [← r.length]; exact G.len _ _ _ _ _ (q (fun _ _ _ => True) [])
  have hbs := hbd s1 us I1.kIn (by rw [List.append_nil]; exact hl2)
  rw [List.append_nil] at hbs
  obtain ⟨QQ, hQQ⟩ : ∃ QQ : List V → Hp → Prop, QQ = fun (ys : List V) (H' : Hp) => ∀ D, H1 D = none → H' D = none → Q (.ref D) (upd H' D (.lst ys)) := ⟨_, rfl⟩
  have q2 : ∀ cs ad, sp vs H1 ⟨cs, fun _ _ _ => True, fun _ _ H2 H3 => H3 = H2, ad⟩ QQ (fun _ _ _ => False) := by rw [hQQ]; exact q
  refine wpAny_call (codeAny_mono (G.run X.A X.stack s1 H1 ⟨us, []⟩ us vs (fun Dl' Q' => ∃ cs ad, Dl' = ⟨cs, fun _ _ _ => True, fun _ _ H2 H3 => H3 = H2, ad⟩ ∧ Q' = QQ) (fun _ _ _ => False) ⟨_, _, fun _ _ _ => True, [], rfl, rfl⟩ (room.mono (Nat.le_succ k)) I1.env0 hbs r (fun Dl' Q' z => by obtain ⟨cs, ad, z1, z2⟩ := z; rw [z1, z2]; exact q2 cs ad)) fun r s2 hq => ?_)
  cases r with
  | error _ => exact hq.elim
  | ok fl =>
  cases fl with
  | next => exact hq.elim
  | brk => exact hq.elim
  | cont => exact hq.elim
  | ret u =>
  obtain ⟨a, g, c, go, rfl, ha1, ha2, hgo, isg, hgs, hos, hba, hkp, wake⟩ := hq
  have I2 : Inv X pins σ H1 s2 := I1.call' (ch := []) hos (Un.kept hkp) (I1.hok.kept hkp) hba fun _ z => nomatch z
  refine wpAny_pyIter_gen (isg _ hgo) ?_
  have L : LowX X pins s1.heap.objs.size := I1.low
  have hfrF : ∀ b ∈ frs X.stack, b < s1.heap.objs.size := fun b hb => by
    obtain ⟨_, o, ho, _⟩ := I1.stack.mem hb
    exact Heap.lt_size ho
  have hgl2 : g < s2.gens.size := (Array.getElem?_eq_some_iff.mp hgs).1
  refine wpAny_newObj_type (newEnv_comp ?_) (by show 0 ≤ sizeLine; decide)
  obtain ⟨D, hD⟩ : ∃ D, s2.heap.objs.size = D := ⟨_, rfl⟩
  obtain ⟨C, hC⟩ : ∃ C, s2.heap.objs.size + 1 = C := ⟨_, rfl⟩
  have hDC : D ≠ C := by rw [← hD, ← hC]; exact Nat.ne_of_lt (Nat.lt_succ_self _)
  have nDlt : s1.heap.objs.size < D := by rw [← hD]; exact Nat.lt_of_le_of_lt ha1 ha2
  have nD : s1.heap.objs.size ≤ D := Nat.le_of_lt nDlt
  have nClt : s1.heap.objs.size < C := by rw [← hC]; exact Nat.lt_succ_of_lt (Nat.lt_of_le_of_lt ha1 ha2)
  have nC : s1.heap.objs.size ≤ C := Nat.le_of_lt nClt
  have hCs : (s2.heap.push { cls := .type "list", data := .seq ([] : List Value).toArray }).objs.size = C := by rw [Heap.size_push]; exact hC
  generalize hce : compEnvC scope (cellsFrom ((s2.heap.push { cls := .type "list", data := .seq ([] : List Value).toArray }).objs.size + 1) scope.names (cloFrom X.env.cells scope.names [])) (s2.heap.push { cls := .type "list", data := .seq ([] : List Value).toArray }).objs.size X.env = ce
  rw [hCs] at hce
  have cL : ce.locals = C := by subst hce; rfl
  have cK : ce.scope.kind = .function := by subst hce; exact hkind
  have cY : ce.kindOf y = some .local := by subst hce; exact lookup_relabel_local hy
  have cP : (ce.scope.kind == .class || (ce.scope.kind == .module && ce.locals != ce.globals)) = false := by rw [cK]; rfl
  show codeAny (model X.prog X.w) X.A (.compStart (.ListComp (.Name y p1) [⟨.Name y p2, .Call (.Name x p) (e :: es) [] pos2, [], 0⟩] scope pos) 0 (.ref a) (.ref s2.heap.objs.size) (compEnvC scope (cellsFrom ((s2.heap.push { cls := .type "list", data := .seq ([] : List Value).toArray }).objs.size + 1) scope.names (cloFrom X.env.cells scope.names [])) (s2.heap.push { cls := .type "list", data := .seq ([] : List Value).toArray }).objs.size X.env))
    (compPost (model X.prog X.w) X.A X.xe use Qf (.ref s2.heap.objs.size) (s2.heap.push { cls := .type "list", data := .seq ([] : List Value).toArray }).objs.size) { s2 with heap := pushCells ((s2.heap.push { cls := .type "list", data := .seq ([] : List Value).toArray }).push { cls := .type "dict", data := .dict #[] }) scope.names }
  rw [hCs, hD, hce]
  have nsC4 : (pushCells ((s2.heap.push { cls := .type "list", data := .seq ([] : List Value).toArray }).push { cls := .type "dict", data := .dict #[] }) scope.names).Ns C fun _ => none := by
    rw [← hCs]
    exact Heap.Ns.keeps (Heap.Ns.new ..) fun b o e => pushCells_keeps _ _ _ _ e
  have lD4 : (pushCells ((s2.heap.push { cls := .type "list", data := .seq ([] : List Value).toArray }).push { cls := .type "dict", data := .dict #[] }) scope.names).get? D = some { cls := .type "list", data := .seq ([] : List Value).toArray 0 } := by
    refine pushCells_keeps _ _ _ _ (Heap.get?_push_of_some _ ?_)
    rw [← hD]
    exact Heap.get?_push_size _ rfl
  have kp4 : ∀ b o, s2.heap.get? b = some o → (pushCells ((s2.heap.push { cls := .type "list", data := .seq ([] : List Value).toArray }).push { cls := .type "dict", data := .dict #[] }) scope.names).get? b = some o := fun b o e => pushCells_keeps _ _ _ _ (Heap.get?_push_of_some _ (Heap.get?_push_of_some _ e))
  obtain ⟨s4, hs4⟩ : ∃ s4 : Shared, s4 = { s2 with heap := pushCells ((s2.heap.push { cls := .type "list", data := .seq ([] : List Value).toArray }).push { cls := .type "dict", data := .dict #[] }) scope.names } := ⟨_, rfl⟩
  rw [← hs4]
  have nsC : s4.heap.Ns C fun _ => none := by rw [hs4]; exact nsC4
  have lD : s4.heap.get? D = some { cls := .type "list", data := .seq ([] : List Value).toArray 0 } := by rw [hs4]; exact lD4
  have kp : ∀ b o, s2.heap.get? b = some o → s4.heap.get? b = some o := by rw [hs4]; exact kp4
  have os4 : s4.os = s2.os := by rw [hs4]
  have gn4 : s4.gens = s2.gens := by rw [hs4]
  clear hs4 kp4 lD4 nsC4
  have hba4 : AllBare s4.gens := by rw [gn4]; exact hba
  have I4 : Inv X pins σ H1 s4 := I2.call' (ch := []) os4 (Un.kept kp) (I2.hok.kept kp) hba4 fun _ z => nomatch z
  have hCD : ∀ {b : Addr}, b ∈ [C, D] → b = C ∨ b = D := fun hb => by simpa using hb
  -- the deal
  generalize hDl : (⟨fun ys HE sE => Inv X pins σ HE sE ∧ (∃ m, sE.heap.Ns C m) ∧ ∃ its n, sE.heap.get? D = some { cls := .type "list", data := .seq (its : List Value).toArray n } ∧ Vals ys its ∧ ys.length ≤ sizeLine, fun _ _ _ => True, fun _ _ H2 H3 => H3 = H2, [C, D]⟩ : Deal) = Dl
  have hA : ∃ cs ad, Dl = ⟨cs, fun _ _ _ => True, fun _ _ H2 H3 => H3 = H2, ad⟩ ∧ QQ = QQ := ⟨_, _, hDl.symm, rfl⟩
  have adAt : ∀ {HE : Hp} {sE : Shared} {m : Str → Option Value} {its : List Value} {n : Nat}, sE.heap.Ns C m → sE.heap.get? D = some { cls := .type "list", data := .seq its.toArray n } → ∀ b ∈ Dl.ad, ∃ o, sE.heap.get? b = some o ∧ ∀ v, o.data ≠ .cell v := fun {HE sE m its n} hn hl b hb => by
    subst hDl
    rcases hCD hb with rfl | rfl
    · obtain ⟨o, es', ep, ho, hd, _⟩ := hn
      exact ⟨o, ho, fun v z => by rw [hd] at z; cases z⟩
    · exact ⟨_, hl, fun v z => by cases z⟩
  have mkWk : ∀ {H' s' m its n}, Inv X pins σ H' s' → s1.heap.objs.size ≤ s'.heap.objs.size → H' C = none → H' D = none → s'.heap.Ns C m → s'.heap.get? D = some { cls := .type "list", data := .seq (its : List Value).toArray n } → Wk X.prog X.w X.base X.stack s1.heap.objs.size Dl.ad H' s' := fun {H' s' m its n} I' hz hc' hd' hn hl =>
    ⟨I'.bare, I'.bs, I'.stack, fun b hb => ⟨hfrF b hb, I'.stkFree b hb⟩, I'.hok, hz, fun b hb => by
      have q := adAt (HE := H') hn hl b hb
      subst hDl
      rcases hCD hb with rfl | rfl
      · exact ⟨nClt, hc', fun z => absurd (hfrF _ z) (Nat.not_lt.mpr nC), q⟩
      · exact ⟨nDlt, hd', fun z => absurd (hfrF _ z) (Nat.not_lt.mpr nD), q⟩⟩
  have go4 : s4.heap.get? a = some go := kp _ _ hgo
  have loop : codeAny (model X.prog X.w) X.A (.compLoop (.ListComp (.Name y p1) [⟨.Name y p2, .Call (.Name x p) (e :: es) [] pos2, [], 0⟩] scope pos) 0 (.ref a) (.ref D) ce) (compPost (model X.prog X.w) X.A X.xe use Qf (.ref D) C) s4 := by
    obtain ⟨Pd, hPd⟩ : ∃ Pd : Nat → Shared → Prop, Pd = fun n s' => ∃ gs H', s'.gens[g]? = some gs ∧ gs.Goes (model X.prog X.w) X.A.in1 (End3 X.prog X.w X.stack s1.heap.objs.size Dl QQ (fun _ _ _ => False) a g) (GY3 X.prog X.w X.base X.stack [(a, go)] s1.heap.objs.size Dl) n (.send .none) (s'.setGen g .running) ∧ s'.heap.get? a = some go ∧ Inv X pins σ H' s' := ⟨_, rfl⟩
    refine compLoop_any Pd ?_ sizeLine ?_
    · intro n s3 hh
      rw [hPd] at hh
      obtain ⟨gs, H3, hgs3, hgoes, hgo3, I3⟩ := hh
      have hgl3 : g < s3.gens.size := (Array.getElem?_eq_some_iff.mp hgs3).1
      have hcd : ∃ nm qn, go.cls = .type "generator" ∧ go.data = .fields #[.int g 0, nm, qn] := by
        obtain ⟨o, nm, qn, ho, hc, hd, _⟩ := isg _ hgo
        rw [hgo] at ho; cases ho
        exact ⟨nm, qn, hc, hd⟩
      obtain ⟨nm, qn, hgc, hgd⟩ := hcd
      refine wpAny_gsz (n := g + 1) hgl3 (next_genG (A := X.A) (I3.ok.hd hc) I3.nolimit room.depth (isg _ hgo3) hgs3 hgoes (fun v s5 gs' hbare hv => ?_) (fun s5 hf h' hk' => ?_) fun er s5 her => ?_)
      · obtain ⟨ys, x1, HE, H4, mine, hn, rv, hcs, hz, un, os5, ag5, hok5, hpn, hz5, hcp, yd, hmine, hmad, wakes⟩ := hv
        intro hsz
        have hcs2 : Inv X pins σ HE (s3.setGen g .running) ∧ (∃ m, (s3.setGen g .running).heap.Ns C m) ∧ ∃ its n, (s3.setGen g .running).heap.get? D = some { cls := .type "list", data := .seq (its : List Value).toArray n } ∧ Vals ys its ∧ ys.length ≤ sizeLine := by subst hDl; exact hcs
        obtain ⟨IE, ⟨m, hnC⟩, its, nn, hlD, hvs, hlen0⟩ := hcs2
        have hsz5 : g < s5.gens.size := by
          have z : (s5.setGen g gs').gens.size = s5.gens.size := setGen_size _ _ _
          have z2 : g + 1 ≤ (s5.setGen g gs').gens.size := hsz
          omega
        have pin : ∀ b ∈ [C, D], ∀ o, (s3.setGen g .running).heap.get? b = some o → s5.heap.get? b = some o ∧ H4 b = none := fun b hb o eo => hcp (b, o) (by subst hDl; exact mem_pinsAt hb eo)
        have hnC5 : s5.heap.Ns C m := hnC.at' fun o eo => (pin C List.mem_cons_self o eo).1
        obtain ⟨hlD5, nD4⟩ := pin D (List.mem_cons_of_mem _ List.mem_cons_self) _ hlD
        have nC4 : H4 C = none := by
          obtain ⟨o, _, _, ho, _⟩ := hnC
          exact (pin C List.mem_cons_self o ho).2
        have I5 : Inv X pins σ H4 (s5.setGen g gs') := (IE.stretch L un hok5 os5 ag5).gensTo (allBare_setGen ag5 hbare)
        have hgo5 : s5.heap.get? a = some go := (hpn _ (List.mem_singleton.mpr rfl)).1
        refine go_of (s := s5.setGen g gs') hgo5 hgc hgd (by decide) ?_
        refine wpAny_assign_Name (wpAny_storeName_local cY (m := m) (by rw [cL]; exact hnC5) (fun h6 hn6 hb6 => ?_) cP)
        rw [cL] at hn6 hb6
        refine wpAny_tests_nil ?_
        rw [if_pos rfl]
        refine wpAny_Name (wpAny_loadName_local cK cY (m := fun z => if z = y then some v else m z) (by rw [cL]; exact hn6) (if_pos rfl) ?_) hdy
        have hlD6 : h6.get? D = some { cls := .type "list", data := .seq its.toArray nn } := (hb6.2 D hDC).trans hlD5
        have hlen := hvs.length
        refine append_at hlD6 (fun h7 hb7 hl7 => ?_) (by rw [List.size_toArray]; omega)
        have keep : ∀ b o, b ∉ [C, D] → s5.heap.get? b = some o → h7.get? b = some o := fun b o hb eo => by
          simp only [List.mem_cons, List.not_mem_nil, or_false, not_or] at hb
          exact (hb7.2 b hb.2).trans ((hb6.2 b hb.1).trans eo)
        have I7 : Inv X pins σ H4 { s5.setGen g gs' with heap := h7, toks := s5.toks + 1 } := I5.far L rfl I5.bare (ch := [C, D]) (fun b hb => by rcases hCD hb with rfl | rfl; exact ⟨nC, nC4⟩; exact ⟨nD, nD4⟩) keep
        have haC : a ∉ [C, D] := fun hb => by
          rcases hCD hb with z | z
          · rw [z, ← hC] at ha2; exact absurd (Nat.lt_trans ha2 (Nat.lt_succ_self _)) (Nat.lt_irrefl _)
          · rw [z, ← hD] at ha2; exact absurd ha2 (Nat.lt_irrefl _)
        have hnC7 : h7.Ns C fun z => if z = y then some v else m z := hn6.sameBut hb7 (Ne.symm hDC)
        obtain ⟨s7, hs7⟩ : ∃ s7 : Shared, s7 = { s5.setGen g gs' with heap := h7, toks := s5.toks + 1 } := ⟨_, rfl⟩
        have hp7 : s7.heap = h7 := by rw [hs7]
        have gn7 : s7.gens = (s5.setGen g gs').gens := by rw [hs7]
        rw [← hs7] at I7
        have I7r : Inv X pins σ H4 (s7.setGen g .running) := I7.gensTo (allBare_setGen I7.bare rfl)
        have hgs7 : s7.gens[g]? = some gs' := by rw [gn7]; exact setGen_at hsz5
        have hn7 : (s7.setGen g .running).heap.Ns C fun z => if z = y then some v else m z := by show s7.heap.Ns C _; rw [hp7]; exact hnC7
        have hl7' : (s7.setGen g .running).heap.get? D = some { cls := .type "list", data := .seq (its ++ [v]).toArray (nn + 1) } := by
          show s7.heap.get? D = _
          rw [hp7, hl7]
          simp
        have hz7 : s1.heap.objs.size ≤ (s7.setGen g .running).heap.objs.size := Nat.le_trans nC (Nat.le_of_lt hn7.lt)
        have wk := wakes H4 (s7.setGen g .running) (mkWk I7r hz7 nC4 nD4 hn7 hl7') (by subst hDl; exact ⟨I7r, ⟨_, hn7⟩, _, _, hl7', hvs.append (.cons rv .nil), by rw [List.length_append, List.length_singleton]; omega⟩) (fun b mb o eb => ⟨(by show s7.heap.get? b = _; rw [hp7]; exact keep b o (fun z => hmad b mb (by subst hDl; exact z)) eb), (hmine b mb).1⟩) (by subst hDl; rfl)
        cases n with
        | zero => exact False.elim wk
        | succ q =>
          have fin : Pd q s7 := by
            rw [hPd]
            exact ⟨gs', H4, hgs7, wk, by rw [hp7]; exact keep a go haC hgo5, I7⟩
          rw [hs7] at fin
          exact ⟨q, Nat.lt_succ_self q, fin⟩
      · obtain ⟨ys, HE, H4, hcs, hz, os5, ag5, un, hok5, hcp, hQ⟩ := hf
        intro _
        have hcs2 : Inv X pins σ HE (s3.setGen g .running) ∧ (∃ m, (s3.setGen g .running).heap.Ns C m) ∧ ∃ its n, (s3.setGen g .running).heap.get? D = some { cls := .type "list", data := .seq (its : List Value).toArray n } ∧ Vals ys its ∧ ys.length ≤ sizeLine := by subst hDl; exact hcs
        obtain ⟨IE, ⟨m, hnC⟩, its, nn, hlD, hvs, hlen0⟩ := hcs2
        have pin : ∀ b ∈ [C, D], ∀ o, (s3.setGen g .running).heap.get? b = some o → s5.heap.get? b = some o ∧ H4 b = none := fun b hb o eo => hcp (b, o) (by subst hDl; exact mem_pinsAt hb eo)
        have hnC5 : s5.heap.Ns C m := hnC.at' fun o eo => (pin C List.mem_cons_self o eo).1
        obtain ⟨hlD5, nD4⟩ := pin D (List.mem_cons_of_mem _ List.mem_cons_self) _ hlD
        have nC4 : H4 C = none := by
          obtain ⟨o, _, _, ho, _⟩ := hnC
          exact (pin C List.mem_cons_self o ho).2
        have I5 : Inv X pins σ H4 (s5.setGen g .finished) := (IE.stretch L un hok5 os5 ag5).gensTo (allBare_setGen ag5 rfl)
        have I6 : Inv X pins σ H4 { s5.setGen g .finished with heap := h' } := I5.call' (ch := []) rfl (Un.kept hk') (I5.hok.kept hk') I5.bare fun _ z => nomatch z
        have I7 := I6.track L nD nD4 hlen0 (hk' _ _ hlD5) hvs
        refine hRR D C _ m _ I7 ?_ (hnC5.keeps hk') ?_
        · rw [hQQ] at hQ
          exact hQ D (I1.hok.fresh nD) nD4
        · obtain ⟨t1, t2, t3, t4⟩ := L.apart nC
          exact ⟨by rw [upd_ne (Ne.symm hDC)]; exact nC4, t2, fun z => I1.nofs nC z, t1, t3, t4⟩
      · obtain ⟨ys, HE, sE, hcs, hz, cx, hge⟩ := her
        obtain ⟨_, _, _, _, _, _, _, _, _, _, _, _, hE⟩ := cx
        exact hE.elim
    · rw [hPd]
      refine ⟨.fresh c, H1, by rw [gn4]; exact hgs, ⟨rfl, ?_⟩, go4, I4⟩
      refine wake X.A.in1 (s4.setGen g .running) Dl QQ hA room.in1 I1.ok.frames kp (os4.trans hos) (allBare_setGen hba4 rfl) (fun b hb => ?_) ?_
      · refine ⟨?_, adAt (HE := H1) (sE := s4.setGen g .running) nsC lD b hb⟩
        subst hDl
        rcases hCD hb with rfl | rfl
        · rw [← hC]; exact Nat.le_succ _
        · rw [← hD]; exact Nat.le_refl _
      · subst hDl
        exact ⟨I4.gensTo (allBare_setGen hba4 rfl), ⟨_, nsC⟩, [], 0, lD, .nil, Nat.zero_le _⟩
  exact codeAny_compStart_list loop (wpAny_pyIter_gen (isg _ go4) loop)
end
end L2

set_option Elab.async false
set_option linter.all false
set_option maxRecDepth 100000
set_option maxHeartbeats 4000000
namespace L2
open PySem PySem.Spec PyProof.Rows GenW
theorem pi_tupK {X : Cx} {K : PySem.W.Frag} (h : X.K = K) {tg l : Expr} {tl : TE} (hl : PE X l tl) : PI X tg l (iTup K tl) := by subst h; exact pi_tup hl
theorem cr_minDK {X : Cx} {K : PySem.W.Frag} (h : X.K = K) (hc : X.calm = true) (hu : X.A.units + 64 < cLine) : CallRK X (.builtin "min") [Str.ofString "default"] (rMxD K mnD) := by subst h; exact cr_minD hc hu
theorem cr_maxDK {X : Cx} {K : PySem.W.Frag} (h : X.K = K) (hc : X.calm = true) (hu : X.A.units + 64 < cLine) : CallRK X (.builtin "max") [Str.ofString "default"] (rMxD K mxD) := by subst h; exact cr_maxD hc hu
section
variable {X : Cx} {k : Nat} {ps : List Str} {sp : SpG3} {x y : Str} {p p1 p2 pos pos2 : Pos} {e : Expr} {es : List Expr} {ta : TA} {scope : Scope} {own : List (Str × Nat)}
/-- as a value -/
theorem pe_lcG (hc : X.calm = true) (O : OwnG3 X.prog X.w X.K X.mg X.base x k ps sp) (room : Room (k + 1) X.A) (ha : PA X (e :: es) ta) (ok : BlkOk X.N X.env.scope scope own) (hy : scope.names.lookup y = some .local) (hgl : Gl X x := by rfl) (hdb : (x == ("__debug__" : Str)) = false := by decide) (hdy : (y == ("__debug__" : Str)) = false := by decide)
    (he : starEach (e :: es) X.env = (false, eval e X.env) :: starEach es X.env := by rfl) (hpl : (backTo pos2 (starEach es X.env)).any (·.1) = false := by rfl) (hs : ∀ z, foldedSetIterable (.Call (.Name x p) (e :: es) [] pos2) X.env z = pure z := by intro _; rfl) :
    PE X (.ListComp (.Name y p1) [⟨.Name y p2, .Call (.Name x p) (e :: es) [] pos2, [], 0⟩] scope pos) (tLcG sp ta) := by
  refine ⟨fun pins s σ H Q I h => ?_⟩
  rw [eval_ListComp]
  refine lcG_core hc I O room ha ok.kind ok.free (fun y hy e => by rw [ok.uniq y hy, e]) hy hgl hdb hdy he hpl hs h fun D C s' m H' I' q hn f => ⟨m, hn, fun h'' sb => ?_⟩
  obtain ⟨f0, f1, f2, f3, f4, f5⟩ := f
  exact ⟨.ref D, H', I'.turned (t' := s'.toks) (fun b o hb e => (sb.2 b hb).trans e) f0 f1 f3 f4 f5, rfl, q⟩
/-- name = [..] on one line, the name a local -/
theorem ps_setLcG {i : Nat} {n : Str} {py spos : Pos} (hc : X.calm = true) (hN : X.N.Nodup) (hn : X.N[i]? = some n) (hnl : X.env.scope.names.lookup n = some .local) (hsw : swapsWith (.ListComp (.Name y p1) [⟨.Name y p2, .Call (.Name x p) (e :: es) [] pos2, [], 0⟩] scope pos) (some (.Name n py)) spos.line X.env = pure true)
    (O : OwnG3 X.prog X.w X.K X.mg X.base x k ps sp) (room : Room (k + 1) X.A) (ha : PA X (e :: es) ta) (ok : BlkOk X.N X.env.scope scope own) (hy : scope.names.lookup y = some .local) (hgl : Gl X x := by rfl) (hdb : (x == ("__debug__" : Str)) = false := by decide) (hdy : (y == ("__debug__" : Str)) = false := by decide)
    (he : starEach (e :: es) X.env = (false, eval e X.env) :: starEach es X.env := by rfl) (hpl : (backTo pos2 (starEach es X.env)).any (·.1) = false := by rfl) (hs : ∀ z, foldedSetIterable (.Call (.Name x p) (e :: es) [] pos2) X.env z = pure z := by intro _; rfl) :
    PS X (.Assign [.Name n py] (.ListComp (.Name y p1) [⟨.Name y p2, .Call (.Name x p) (e :: es) [] pos2, [], 0⟩] scope pos) spos) (tAsg (tLcG sp ta) (gName i)) := by
  refine ⟨fun pins s σ H D I h => ?_⟩
  rw [exec_Assign_Name_used _ _ _ _ hsw]
  refine wpAny_bind (wpAny_standAt (wpAny_bind ?_))
  show wpAny _ X.A (do let _ ← comprehension (.ListComp (.Name y p1) [⟨.Name y p2, .Call (.Name x p) (e :: es) [] pos2, [], 0⟩] scope pos) scope X.env (firstIterPos [⟨.Name y p2, .Call (.Name x p) (e :: es) [] pos2, [], 0⟩] pos) (newList []) false (eval (.Call (.Name x p) (e :: es) [] pos2) X.env) (some (assign (.Name n py) X.env))) _ _ s
  have h : tLcG sp ta σ H (fun x H1 => gName i x σ H1 D.nx) := h
  refine wpAny_bind (thn (lcG_core (Qf := fun _ s' => SP X pins D .next s') hc I O room ha ok.kind ok.free (fun y hy e => by rw [ok.uniq y hy, e]) hy hgl hdb hdy he hpl hs h fun L C s' m H' I' q hm f => ?_) fun _ s' hq => wpAny_pure (wpAny_pure hq))
  show wpAny _ _ (assign (.Name n py) X.env (.ref L)) _ _ _
  refine wpAny_assign_Name (store_ok2 (v := V.ref L) I' hN hn (.inl hnl) rfl (fun s2 I2 ⟨a, sb, ha⟩ => ?_) (.inr hnl))
  obtain ⟨f0, f1, f2, f3, f4, f5⟩ := f
  have haC : C ≠ a := by
    rcases ha with z | z
    · rw [z]; exact f1
    · exact fun e => f4 n a z e.symm
  refine ⟨m, hm.sameBut sb haC, fun h3 sb3 => ?_⟩
  exact ⟨_, H', I2.turned (t' := s2.toks) (fun b o hb e => (sb3.2 b hb).trans e) f0 f1 f3 f4 f5, q⟩
end
end L2

set_option Elab.async false
set_option linter.all false
set_option maxRecDepth 100000
set_option maxHeartbeats 4000000
/-! [x for x in f(..)], where what is out carries a promise -/
namespace L2
open PySem PySem.Spec PyProof.Rows GenW
/-- the items stand in the new list, the heap is the generator's own -/
def tLcY (sp : SpG3) (ta : TA) : TE := fun σ H Q => ta σ H fun vs H1 => ∃ Y : List V → V → Hp → Prop, ∀ cs ad, sp vs H1 ⟨cs, Y, fun ys x H2 H3 => H3 = H2 ∧ Y ys x H2, ad⟩ (fun ys H' => ∀ D, H1 D = none → H' D = none → Q (.ref D) (upd H' D (.lst ys))) (fun _ _ _ => False)
section
variable {X : Cx} {k : Nat} {ps : List Str} {sp : SpG3} {x y : Str} {p p1 p2 pos pos2 pos' : Pos} {e : Expr} {es : List Expr} {ta : TA} {scope : Scope} {use : Option (Value → Sem Unit)} {Qf : Value → Shared → Prop} {pins : List (Addr × Obj)} {s : Shared} {σ : St} {H : Hp} {Q : VK}
theorem lcY_core (hc : X.calm = true) (I : Inv X pins σ H s) (O : OwnG3 X.prog X.w X.K X.mg X.base x k ps sp) (room : Room (k + 1) X.A) (ha : PA X (e :: es) ta) (hkind : scope.kind = .function) (hfr : ∀ y ∈ scope.names, y.2 = .free → X.env.scope.names.lookup y.1 = some .cell ∨ X.env.scope.names.lookup y.1 = some .free)
    (hnm : ∀ x ∈ scope.names, x.2 = .local → scope.names.lookup x.1 = some .local) (hy : scope.names.lookup y = some .local) (hgl : Gl X x) (hdb : (x == ("__debug__" : Str)) = false) (hdy : (y == ("__debug__" : Str)) = false)
    (he : starEach (e :: es) X.env = (false, eval e X.env) :: starEach es X.env) (hpl : (backTo pos2 (starEach es X.env)).any (·.1) = false) (hs : ∀ z, foldedSetIterable (.Call (.Name x p) (e :: es) [] pos2) X.env z = pure z)
    (h : tLcY sp ta σ H Q)
    (hRR : ∀ D C s' m H', Inv X pins σ H' s' → Q (.ref D) H' → s'.heap.Ns C m → FpOk X pins H' C → compPost (model X.prog X.w) X.A X.xe use Qf (.ref D) C (.ok .next) s') :
    wpAny (model X.prog X.w) X.A (comprehension (.ListComp (.Name y p1) [⟨.Name y p2, .Call (.Name x p) (e :: es) [] pos2, [], 0⟩] scope pos) scope X.env pos' (newList []) false (eval (.Call (.Name x p) (e :: es) [] pos2) X.env) use) Qf X.xe s := by
  have hfree : ∀ y ∈ scope.names, y.2 = .free → ∃ c, X.env.cells.lookup y.1 = some c := fun y hy e => I.ok.has _ (hfr y hy e)
  obtain ⟨f, fd, G, hm, hk, hbd⟩ := O.ex
  refine wpAny_comprehension_free (use := use) rfl hs (closure_ok hfree) hkind hnm
    (wpAny_Call_Name_kw (ld_glob I hgl hm (PySem.W.callWith_K (h₀ := X.base) I.ok.mod.kin hk (thn (ha.run pos2 pins s σ H _ I h) fun us s1 ⟨vs, H1, I1, r, Y, q⟩ => ⟨I1.kIn, ?_⟩) he hpl) hdb))
  have hl2 : us.length = ps.length := by rw [← r.length]; exact G.len _ _ _ _ _ (q (fun _ _ _ => True) [])
  have hbs := hbd s1 us I1.kIn (by rw [List.append_nil]; exact hl2)
  rw [List.append_nil] at hbs
  obtain ⟨QQ, hQQ⟩ : ∃ QQ : List V → Hp → Prop, QQ = fun (ys : List V) (H' : Hp) => ∀ D, H1 D = none → H' D = none → Q (.ref D) (upd H' D (.lst ys)) := ⟨_, rfl⟩
  have q2 : ∀ cs ad, sp vs H1 ⟨cs, Y, fun ys x H2 H3 => H3 = H2 ∧ Y ys x H2, ad⟩ QQ (fun _ _ _ => False) := by rw [hQQ]; exact q
  refine wpAny_call (codeAny_mono (G.run X.A X.stack s1 H1 ⟨us, []⟩ us vs (fun Dl' Q' => ∃ cs ad, Dl' = ⟨cs, Y, fun ys x H2 H3 => H3 = H2 ∧ Y ys x H2, ad⟩ ∧ Q' = QQ) (fun _ _ _ => False) ⟨_, _, fun _ _ _ => True, [], rfl, rfl⟩ (room.mono (Nat.le_succ k)) I1.env0 hbs r (fun Dl' Q' z => by obtain ⟨cs, ad, z1, z2⟩ := z; rw [z1, z2]; exact q2 cs ad)) fun r s2 hq => ?_)
  cases r with
  | error _ => exact hq.elim
  | ok fl =>
  cases fl with
  | next => exact hq.elim
  | brk => exact hq.elim
  | cont => exact hq.elim
  | ret u =>
  obtain ⟨a, g, c, go, rfl, ha1, ha2, hgo, isg, hgs, hos, hba, hkp, wake⟩ := hq
  have I2 : Inv X pins σ H1 s2 := I1.call' (ch := []) hos (Un.kept hkp) (I1.hok.kept hkp) hba fun _ z => nomatch z
  refine wpAny_pyIter_gen (isg _ hgo) ?_
  have L : LowX X pins s1.heap.objs.size := I1.low
  have hfrF : ∀ b ∈ frs X.stack, b < s1.heap.objs.size := fun b hb => by
    obtain ⟨_, o, ho, _⟩ := I1.stack.mem hb
    exact Heap.lt_size ho
  have hgl2 : g < s2.gens.size := (Array.getElem?_eq_some_iff.mp hgs).1
  refine wpAny_newObj_type (newEnv_comp ?_) (by show 0 ≤ sizeLine; decide)
  obtain ⟨D, hD⟩ : ∃ D, s2.heap.objs.size = D := ⟨_, rfl⟩
  obtain ⟨C, hC⟩ : ∃ C, s2.heap.objs.size + 1 = C := ⟨_, rfl⟩
  have hDC : D ≠ C := by rw [← hD, ← hC]; exact Nat.ne_of_lt (Nat.lt_succ_self _)
  have nDlt : s1.heap.objs.size < D := by rw [← hD]; exact Nat.lt_of_le_of_lt ha1 ha2
  have nD : s1.heap.objs.size ≤ D := Nat.le_of_lt nDlt
  have nClt : s1.heap.objs.size < C := by rw [← hC]; exact Nat.lt_succ_of_lt (Nat.lt_of_le_of_lt ha1 ha2)
  have nC : s1.heap.objs.size ≤ C := Nat.le_of_lt nClt
  have hCs : (s2.heap.push { cls := .type "list", data := .seq ([] : List Value).toArray }).objs.size = C := by rw [Heap.size_push]; exact hC
  generalize hce : compEnvC scope (cellsFrom ((s2.heap.push { cls := .type "list", data := .seq ([] : List Value).toArray }).objs.size + 1) scope.names (cloFrom X.env.cells scope.names [])) (s2.heap.push { cls := .type "list", data := .seq ([] : List Value).toArray }).objs.size X.env = ce
  rw [hCs] at hce
  have cL : ce.locals = C := by subst hce; rfl
  have cK : ce.scope.kind = .function := by subst hce; exact hkind
  have cY : ce.kindOf y = some .local := by subst hce; exact lookup_relabel_local hy
  have cP : (ce.scope.kind == .class || (ce.scope.kind == .module && ce.locals != ce.globals)) = false := by rw [cK]; rfl
  show codeAny (model X.prog X.w) X.A (.compStart (.ListComp (.Name y p1) [⟨.Name y p2, .Call (.Name x p) (e :: es) [] pos2, [], 0⟩] scope pos) 0 (.ref a) (.ref s2.heap.objs.size) (compEnvC scope (cellsFrom ((s2.heap.push { cls := .type "list", data := .seq ([] : List Value).toArray }).objs.size + 1) scope.names (cloFrom X.env.cells scope.names [])) (s2.heap.push { cls := .type "list", data := .seq ([] : List Value).toArray }).objs.size X.env))
    (compPost (model X.prog X.w) X.A X.xe use Qf (.ref s2.heap.objs.size) (s2.heap.push { cls := .type "list", data := .seq ([] : List Value).toArray }).objs.size) { s2 with heap := pushCells ((s2.heap.push { cls := .type "list", data := .seq ([] : List Value).toArray }).push { cls := .type "dict", data := .dict #[] }) scope.names }
  rw [hCs, hD, hce]
  have nsC4 : (pushCells ((s2.heap.push { cls := .type "list", data := .seq ([] : List Value).toArray }).push { cls := .type "dict", data := .dict #[] }) scope.names).Ns C fun _ => none := by
    rw [← hCs]
    exact Heap.Ns.keeps (Heap.Ns.new ..) fun b o e => pushCells_keeps _ _ _ _ e
  have lD4 : (pushCells ((s2.heap.push { cls := .type "list", data := .seq ([] : List Value).toArray }).push { cls := .type "dict", data := .dict #[] }) scope.names).get? D = some { cls := .type "list", data := .seq ([] : List Value).toArray 0 } := by
    refine pushCells_keeps _ _ _ _ (Heap.get?_push_of_some _ ?_)
    rw [← hD]
    exact Heap.get?_push_size _ rfl
  have kp4 : ∀ b o, s2.heap.get? b = some o → (pushCells ((s2.heap.push { cls := .type "list", data := .seq ([] : List Value).toArray }).push { cls := .type "dict", data := .dict #[] }) scope.names).get? b = some o := fun b o e => pushCells_keeps _ _ _ _ (Heap.get?_push_of_some _ (Heap.get?_push_of_some _ e))
  obtain ⟨s4, hs4⟩ : ∃ s4 : Shared, s4 = { s2 with heap := pushCells ((s2.heap.push { cls := .type "list", data := .seq ([] : List Value).toArray }).push { cls := .type "dict", data := .dict #[] }) scope.names } := ⟨_, rfl⟩
  rw [← hs4]
  have nsC : s4.heap.Ns C fun _ => none := by rw [hs4]; exact nsC4
  have lD : s4.heap.get? D = some { cls := .type "list", data := .seq ([] : List Value).toArray 0 } := by rw [hs4]; exact lD4
  have kp : ∀ b o, s2.heap.get? b = some o → s4.heap.get? b = some o := by rw [hs4]; exact kp4
  have os4 : s4.os = s2.os := by rw [hs4]
  have gn4 : s4.gens = s2.gens := by rw [hs4]
  clear hs4 kp4 lD4 nsC4
  have hba4 : AllBare s4.gens := by rw [gn4]; exact hba
  have I4 : Inv X pins σ H1 s4 := I2.call' (ch := []) os4 (Un.kept kp) (I2.hok.kept kp) hba4 fun _ z => nomatch z
  have hCD : ∀ {b : Addr}, b ∈ [C, D] → b = C ∨ b = D := fun hb => by simpa using hb
  -- the deal
  generalize hDl : (⟨fun ys HE sE => Inv X pins σ HE sE ∧ (∃ m, sE.heap.Ns C m) ∧ ∃ its n, sE.heap.get? D = some { cls := .type "list", data := .seq (its : List Value).toArray n } ∧ Vals ys its ∧ ys.length ≤ sizeLine, Y, fun ys x H2 H3 => H3 = H2 ∧ Y ys x H2, [C, D]⟩ : Deal) = Dl
  have hA : ∃ cs ad, Dl = ⟨cs, Y, fun ys x H2 H3 => H3 = H2 ∧ Y ys x H2, ad⟩ ∧ QQ = QQ := ⟨_, _, hDl.symm, rfl⟩
  have adAt : ∀ {HE : Hp} {sE : Shared} {m : Str → Option Value} {its : List Value} {n : Nat}, sE.heap.Ns C m → sE.heap.get? D = some { cls := .type "list", data := .seq its.toArray n } → ∀ b ∈ Dl.ad, ∃ o, sE.heap.get? b = some o ∧ ∀ v, o.data ≠ .cell v := fun {HE sE m its n} hn hl b hb => by
    subst hDl
    rcases hCD hb with rfl | rfl
    · obtain ⟨o, es', ep, ho, hd, _⟩ := hn
      exact ⟨o, ho, fun v z => by rw [hd] at z; cases z⟩
    · exact ⟨_, hl, fun v z => by cases z⟩
  have mkWk : ∀ {H' s' m its n}, Inv X pins σ H' s' → s1.heap.objs.size ≤ s'.heap.objs.size → H' C = none → H' D = none → s'.heap.Ns C m → s'.heap.get? D = some { cls := .type "list", data := .seq (its : List Value).toArray n } → Wk X.prog X.w X.base X.stack s1.heap.objs.size Dl.ad H' s' := fun {H' s' m its n} I' hz hc' hd' hn hl =>
    ⟨I'.bare, I'.bs, I'.stack, fun b hb => ⟨hfrF b hb, I'.stkFree b hb⟩, I'.hok, hz, fun b hb => by
      have q := adAt (HE := H') hn hl b hb
      subst hDl
      rcases hCD hb with rfl | rfl
      · exact ⟨nClt, hc', fun z => absurd (hfrF _ z) (Nat.not_lt.mpr nC), q⟩
      · exact ⟨nDlt, hd', fun z => absurd (hfrF _ z) (Nat.not_lt.mpr nD), q⟩⟩
  have go4 : s4.heap.get? a = some go := kp _ _ hgo
  have loop : codeAny (model X.prog X.w) X.A (.compLoop (.ListComp (.Name y p1) [⟨.Name y p2, .Call (.Name x p) (e :: es) [] pos2, [], 0⟩] scope pos) 0 (.ref a) (.ref D) ce) (compPost (model X.prog X.w) X.A X.xe use Qf (.ref D) C) s4 := by
    obtain ⟨Pd, hPd⟩ : ∃ Pd : Nat → Shared → Prop, Pd = fun n s' => ∃ gs H', s'.gens[g]? = some gs ∧ gs.Goes (model X.prog X.w) X.A.in1 (End3 X.prog X.w X.stack s1.heap.objs.size Dl QQ (fun _ _ _ => False) a g) (GY3 X.prog X.w X.base X.stack [(a, go)] s1.heap.objs.size Dl) n (.send .none) (s'.setGen g .running) ∧ s'.heap.get? a = some go ∧ Inv X pins σ H' s' := ⟨_, rfl⟩
    refine compLoop_any Pd ?_ sizeLine ?_
    · intro n s3 hh
      rw [hPd] at hh
      obtain ⟨gs, H3, hgs3, hgoes, hgo3, I3⟩ := hh
      have hgl3 : g < s3.gens.size := (Array.getElem?_eq_some_iff.mp hgs3).1
      have hcd : ∃ nm qn, go.cls = .type "generator" ∧ go.data = .fields #[.int g 0, nm, qn] := by
        obtain ⟨o, nm, qn, ho, hc, hd, _⟩ := isg _ hgo
        rw [hgo] at ho; cases ho
        exact ⟨nm, qn, hc, hd⟩
      obtain ⟨nm, qn, hgc, hgd⟩ := hcd
      refine wpAny_gsz (n := g + 1) hgl3 (next_genG (A := X.A) (I3.ok.hd hc) I3.nolimit room.depth (isg _ hgo3) hgs3 hgoes (fun v s5 gs' hbare hv => ?_) (fun s5 hf h' hk' => ?_) fun er s5 her => ?_)
      · obtain ⟨ys, x1, HE, H4, mine, hn, rv, hcs, hz, un, os5, ag5, hok5, hpn, hz5, hcp, yd, hmine, hmad, wakes⟩ := hv
        intro hsz
        have hcs2 : Inv X pins σ HE (s3.setGen g .running) ∧ (∃ m, (s3.setGen g .running).heap.Ns C m) ∧ ∃ its n, (s3.setGen g .running).heap.get? D = some { cls := .type "list", data := .seq (its : List Value).toArray n } ∧ Vals ys its ∧ ys.length ≤ sizeLine := by subst hDl; exact hcs
        obtain ⟨IE, ⟨m, hnC⟩, its, nn, hlD, hvs, hlen0⟩ := hcs2
        have hsz5 : g < s5.gens.size := by
          have z : (s5.setGen g gs').gens.size = s5.gens.size := setGen_size _ _ _
          have z2 : g + 1 ≤ (s5.setGen g gs').gens.size := hsz
          omega
        have pin : ∀ b ∈ [C, D], ∀ o, (s3.setGen g .running).heap.get? b = some o → s5.heap.get? b = some o ∧ H4 b = none := fun b hb o eo => hcp (b, o) (by subst hDl; exact mem_pinsAt hb eo)
        have hnC5 : s5.heap.Ns C m := hnC.at' fun o eo => (pin C List.mem_cons_self o eo).1
        obtain ⟨hlD5, nD4⟩ := pin D (List.mem_cons_of_mem _ List.mem_cons_self) _ hlD
        have nC4 : H4 C = none := by
          obtain ⟨o, _, _, ho, _⟩ := hnC
          exact (pin C List.mem_cons_self o ho).2
        have I5 : Inv X pins σ H4 (s5.setGen g gs') := (IE.stretch L un hok5 os5 ag5).gensTo (allBare_setGen ag5 hbare)
        have hgo5 : s5.heap.get? a = some go := (hpn _ (List.mem_singleton.mpr rfl)).1
        refine go_of (s := s5.setGen g gs') hgo5 hgc hgd (by decide) ?_
        refine wpAny_assign_Name (wpAny_storeName_local cY (m := m) (by rw [cL]; exact hnC5) (fun h6 hn6 hb6 => ?_) cP)
        rw [cL] at hn6 hb6
        refine wpAny_tests_nil ?_
        rw [if_pos rfl]
        refine wpAny_Name (wpAny_loadName_local cK cY (m := fun z => if z = y then some v else m z) (by rw [cL]; exact hn6) (if_pos rfl) ?_) hdy
        have hlD6 : h6.get? D = some { cls := .type "list", data := .seq its.toArray nn } := (hb6.2 D hDC).trans hlD5
        have hlen := hvs.length
        refine append_at hlD6 (fun h7 hb7 hl7 => ?_) (by rw [List.size_toArray]; omega)
        have keep : ∀ b o, b ∉ [C, D] → s5.heap.get? b = some o → h7.get? b = some o := fun b o hb eo => by
          simp only [List.mem_cons, List.not_mem_nil, or_false, not_or] at hb
          exact (hb7.2 b hb.2).trans ((hb6.2 b hb.1).trans eo)
        have I7 : Inv X pins σ H4 { s5.setGen g gs' with heap := h7, toks := s5.toks + 1 } := I5.far L rfl I5.bare (ch := [C, D]) (fun b hb => by rcases hCD hb with rfl | rfl; exact ⟨nC, nC4⟩; exact ⟨nD, nD4⟩) keep
        have haC : a ∉ [C, D] := fun hb => by
          rcases hCD hb with z | z
          · rw [z, ← hC] at ha2; exact absurd (Nat.lt_trans ha2 (Nat.lt_succ_self _)) (Nat.lt_irrefl _)
          · rw [z, ← hD] at ha2; exact absurd ha2 (Nat.lt_irrefl _)
        have hnC7 : h7.Ns C fun z => if z = y then some v else m z := hn6.sameBut hb7 (Ne.symm hDC)
        obtain ⟨s7, hs7⟩ : ∃ s7 : Shared, s7 = { s5.setGen g gs' with heap := h7, toks := s5.toks + 1 } := ⟨_, rfl⟩
        have hp7 : s7.heap = h7 := by rw [hs7]
        have gn7 : s7.gens = (s5.setGen g gs').gens := by rw [hs7]
        rw [← hs7] at I7
        have I7r : Inv X pins σ H4 (s7.setGen g .running) := I7.gensTo (allBare_setGen I7.bare rfl)
        have hgs7 : s7.gens[g]? = some gs' := by rw [gn7]; exact setGen_at hsz5
        have hn7 : (s7.setGen g .running).heap.Ns C fun z => if z = y then some v else m z := by show s7.heap.Ns C _; rw [hp7]; exact hnC7
        have hl7' : (s7.setGen g .running).heap.get? D = some { cls := .type "list", data := .seq (its ++ [v]).toArray (nn + 1) } := by
          show s7.heap.get? D = _
          rw [hp7, hl7]
          simp
        have hz7 : s1.heap.objs.size ≤ (s7.setGen g .running).heap.objs.size := Nat.le_trans nC (Nat.le_of_lt hn7.lt)
        have wk := wakes H4 (s7.setGen g .running) (mkWk I7r hz7 nC4 nD4 hn7 hl7') (by subst hDl; exact ⟨I7r, ⟨_, hn7⟩, _, _, hl7', hvs.append (.cons rv .nil), by rw [List.length_append, List.length_singleton]; omega⟩) (fun b mb o eb => ⟨(by show s7.heap.get? b = _; rw [hp7]; exact keep b o (fun z => hmad b mb (by subst hDl; exact z)) eb), (hmine b mb).1⟩) (by subst hDl; exact ⟨rfl, yd⟩)
        cases n with
        | zero => exact False.elim wk
        | succ q =>
          have fin : Pd q s7 := by
            rw [hPd]
            exact ⟨gs', H4, hgs7, wk, by rw [hp7]; exact keep a go haC hgo5, I7⟩
          rw [hs7] at fin
          exact ⟨q, Nat.lt_succ_self q, fin⟩
      · obtain ⟨ys, HE, H4, hcs, hz, os5, ag5, un, hok5, hcp, hQ⟩ := hf
        intro _
        have hcs2 : Inv X pins σ HE (s3.setGen g .running) ∧ (∃ m, (s3.setGen g .running).heap.Ns C m) ∧ ∃ its n, (s3.setGen g .running).heap.get? D = some { cls := .type "list", data := .seq (its : List Value).toArray n } ∧ Vals ys its ∧ ys.length ≤ sizeLine := by subst hDl; exact hcs
        obtain ⟨IE, ⟨m, hnC⟩, its, nn, hlD, hvs, hlen0⟩ := hcs2
        have pin : ∀ b ∈ [C, D], ∀ o, (s3.setGen g .running).heap.get? b = some o → s5.heap.get? b = some o ∧ H4 b = none := fun b hb o eo => hcp (b, o) (by subst hDl; exact mem_pinsAt hb eo)
        have hnC5 : s5.heap.Ns C m := hnC.at' fun o eo => (pin C List.mem_cons_self o eo).1
        obtain ⟨hlD5, nD4⟩ := pin D (List.mem_cons_of_mem _ List.mem_cons_self) _ hlD
        have nC4 : H4 C = none := by
          obtain ⟨o, _, _, ho, _⟩ := hnC
          exact (pin C List.mem_cons_self o ho).2
        have I5 : Inv X pins σ H4 (s5.setGen g .finished) := (IE.stretch L un hok5 os5 ag5).gensTo (allBare_setGen ag5 rfl)
        have I6 : Inv X pins σ H4 { s5.setGen g .finished with heap := h' } := I5.call' (ch := []) rfl (Un.kept hk') (I5.hok.kept hk') I5.bare fun _ z => nomatch z
        have I7 := I6.track L nD nD4 hlen0 (hk' _ _ hlD5) hvs
        refine hRR D C _ m _ I7 ?_ (hnC5.keeps hk') ?_
        · rw [hQQ] at hQ
          exact hQ D (I1.hok.fresh nD) nD4
        · obtain ⟨t1, t2, t3, t4⟩ := L.apart nC
          exact ⟨by rw [upd_ne (Ne.symm hDC)]; exact nC4, t2, fun z => I1.nofs nC z, t1, t3, t4⟩
      · obtain ⟨ys, HE, sE, hcs, hz, cx, hge⟩ := her
        obtain ⟨_, _, _, _, _, _, _, _, _, _, _, _, hE⟩ := cx
        exact hE.elim
    · rw [hPd]
      refine ⟨.fresh c, H1, by rw [gn4]; exact hgs, ⟨rfl, ?_⟩, go4, I4⟩
      refine wake X.A.in1 (s4.setGen g .running) Dl QQ hA room.in1 I1.ok.frames kp (os4.trans hos) (allBare_setGen hba4 rfl) (fun b hb => ?_) ?_
      · refine ⟨?_, adAt (HE := H1) (sE := s4.setGen g .running) nsC lD b hb⟩
        subst hDl
        rcases hCD hb with rfl | rfl
        · rw [← hC]; exact Nat.le_succ _
        · rw [← hD]; exact Nat.le_refl _
      · subst hDl
        exact ⟨I4.gensTo (allBare_setGen hba4 rfl), ⟨_, nsC⟩, [], 0, lD, .nil, Nat.zero_le _⟩
  exact codeAny_compStart_list loop (wpAny_pyIter_gen (isg _ go4) loop)
end
section
variable {X : Cx} {k : Nat} {ps : List Str} {sp : SpG3} {x y : Str} {p p1 p2 pos pos2 : Pos} {e : Expr} {es : List Expr} {ta : TA} {scope : Scope} {own : List (Str × Nat)}
/-- as a value -/
theorem pe_lcY (hc : X.calm = true) (O : OwnG3 X.prog X.w X.K X.mg X.base x k ps sp) (room : Room (k + 1) X.A) (ha : PA X (e :: es) ta) (ok : BlkOk X.N X.env.scope scope own) (hy : scope.names.lookup y = some .local) (hgl : Gl X x := by rfl) (hdb : (x == ("__debug__" : Str)) = false := by decide) (hdy : (y == ("__debug__" : Str)) = false := by decide)
    (he : starEach (e :: es) X.env = (false, eval e X.env) :: starEach es X.env := by rfl) (hpl : (backTo pos2 (starEach es X.env)).any (·.1) = false := by rfl) (hs : ∀ z, foldedSetIterable (.Call (.Name x p) (e :: es) [] pos2) X.env z = pure z := by intro _; rfl) :
    PE X (.ListComp (.Name y p1) [⟨.Name y p2, .Call (.Name x p) (e :: es) [] pos2, [], 0⟩] scope pos) (tLcY sp ta) := by
  refine ⟨fun pins s σ H Q I h => ?_⟩
  rw [eval_ListComp]
  refine lcY_core hc I O room ha ok.kind ok.free (fun y hy e => by rw [ok.uniq y hy, e]) hy hgl hdb hdy he hpl hs h fun D C s' m H' I' q hn f => ⟨m, hn, fun h'' sb => ?_⟩
  obtain ⟨f0, f1, f2, f3, f4, f5⟩ := f
  exact ⟨.ref D, H', I'.turned (t' := s'.toks) (fun b o hb e => (sb.2 b hb).trans e) f0 f1 f3 f4 f5, rfl, q⟩
end
end L2

set_option Elab.async false
set_option maxRecDepth 100000
set_option maxHeartbeats 4000000
namespace K29
open PySem PySem.Spec PyProof.Rows L2
def top (i : Nat) : Stmt := PySem.Challenge.pw_wholeline_k31_whole_greatest_gaps_of_roa.main.body.getD i (.Pass ⟨0, 0, 0, 0⟩)
abbrev s_BadPart_init : Stmt := inClass (top 3) 0
abbrev nm_BadPart_init : List Str := ["self", "part"]
abbrev pm_BadPart_init : List Str := ["self", "part"]
theorem sc_BadPart_init : FnScope nm_BadPart_init pm_BadPart_init (defScope s_BadPart_init) := ⟨rfl, rfl, rfl, by decide +kernel, rfl, by decide +kernel, by decide +kernel⟩

abbrev s_BadBox_init : Stmt := inClass (top 4) 0
abbrev nm_BadBox_init : List Str := ["self", "index"]
abbrev pm_BadBox_init : List Str := ["self", "index"]
theorem sc_BadBox_init : FnScope nm_BadBox_init pm_BadBox_init (defScope s_BadBox_init) := ⟨rfl, rfl, rfl, by decide +kernel, rfl, by decide +kernel, by decide +kernel⟩

abbrev s_is_integer : Stmt := top 6
abbrev nm_is_integer : List Str := ["value"]
abbrev pm_is_integer : List Str := ["value"]
theorem sc_is_integer : FnScope nm_is_integer pm_is_integer (defScope s_is_integer) := ⟨rfl, rfl, rfl, by decide +kernel, rfl, by decide +kernel, by decide +kernel⟩

abbrev s_is_between : Stmt := top 7
abbrev nm_is_between : List Str := ["value", "low", "high"]
abbrev pm_is_between : List Str := ["value", "low", "high"]
theorem sc_is_between : FnScope nm_is_between pm_is_between (defScope s_is_between) := ⟨rfl, rfl, rfl, by decide +kernel, rfl, by decide +kernel, by decide +kernel⟩

abbrev s_is_list : Stmt := top 8
abbrev nm_is_list : List Str := ["value"]
abbrev pm_is_list : List Str := ["value"]
theorem sc_is_list : FnScope nm_is_list pm_is_list (defScope s_is_list) := ⟨rfl, rfl, rfl, by decide +kernel, rfl, by decide +kernel, by decide +kernel⟩

abbrev s_is_list_of : Stmt := top 9
abbrev nm_is_list_of : List Str := ["value", "low", "high"]
abbrev pm_is_list_of : List Str := ["value", "low", "high"]
theorem sc_is_list_of : FnScope nm_is_list_of pm_is_list_of (defScope s_is_list_of) := ⟨rfl, rfl, rfl, by decide +kernel, rfl, by decide +kernel, by decide +kernel⟩

abbrev s_is_tuple_of : Stmt := top 10
abbrev nm_is_tuple_of : List Str := ["value", "many"]
abbrev pm_is_tuple_of : List Str := ["value", "many"]
theorem sc_is_tuple_of : FnScope nm_is_tuple_of pm_is_tuple_of (defScope s_is_tuple_of) := ⟨rfl, rfl, rfl, by decide +kernel, rfl, by decide +kernel, by decide +kernel⟩

abbrev s_is_begin : Stmt := top 16
abbrev nm_is_begin : List Str := ["value"]
abbrev pm_is_begin : List Str := ["value"]
theorem sc_is_begin : FnScope nm_is_begin pm_is_begin (defScope s_is_begin) := ⟨rfl, rfl, rfl, by decide +kernel, rfl, by decide +kernel, by decide +kernel⟩

abbrev s_are_delays : Stmt := top 17
abbrev nm_are_delays : List Str := ["least", "most"]
abbrev pm_are_delays : List Str := ["least", "most"]
theorem sc_are_delays : FnScope nm_are_delays pm_are_delays (defScope s_are_delays) := ⟨rfl, rfl, rfl, by decide +kernel, rfl, by decide +kernel, by decide +kernel⟩

abbrev s_is_box : Stmt := top 18
abbrev nm_is_box : List Str := ["value", "least", "most", "near", "far", "shortest", "longest"]
abbrev pm_is_box : List Str := ["value", "least", "most"]
theorem sc_is_box : FnScope nm_is_box pm_is_box (defScope s_is_box) := ⟨rfl, rfl, rfl, by decide +kernel, rfl, by decide +kernel, by decide +kernel⟩

abbrev s_Way_init : Stmt := inClass (top 19) 0
abbrev nm_Way_init : List Str := ["self", "begin", "least", "most", "boxes", "index", "box"]
abbrev pm_Way_init : List Str := ["self", "begin", "least", "most", "boxes"]
theorem sc_Way_init : FnScope nm_Way_init pm_Way_init (defScope s_Way_init) := ⟨rfl, rfl, rfl, by decide +kernel, rfl, by decide +kernel, by decide +kernel⟩

abbrev s_Way_window : Stmt := inClass (top 19) 1
abbrev nm_Way_window : List Str := ["self"]
abbrev pm_Way_window : List Str := ["self"]
theorem sc_Way_window : FnScope nm_Way_window pm_Way_window (defScope s_Way_window) := ⟨rfl, rfl, rfl, by decide +kernel, rfl, by decide +kernel, by decide +kernel⟩

abbrev s_Way_eq : Stmt := inClass (top 19) 3
abbrev nm_Way_eq : List Str := ["self", "other"]
abbrev pm_Way_eq : List Str := ["self", "other"]
theorem sc_Way_eq : FnScope nm_Way_eq pm_Way_eq (defScope s_Way_eq) := ⟨rfl, rfl, rfl, by decide +kernel, rfl, by decide +kernel, by decide +kernel⟩

abbrev s_are_rows : Stmt := top 25
abbrev nm_are_rows : List Str := ["value", "row"]
abbrev pm_are_rows : List Str := ["value"]
theorem sc_are_rows : FnScope nm_are_rows pm_are_rows (defScope s_are_rows) := ⟨rfl, rfl, rfl, by decide +kernel, rfl, by decide +kernel, by decide +kernel⟩

abbrev s_spread_of : Stmt := top 29
abbrev nm_spread_of : List Str := ["box"]
abbrev pm_spread_of : List Str := ["box"]
theorem sc_spread_of : FnScope nm_spread_of pm_spread_of (defScope s_spread_of) := ⟨rfl, rfl, rfl, by decide +kernel, rfl, by decide +kernel, by decide +kernel⟩

abbrev s_slack_of : Stmt := top 30
abbrev nm_slack_of : List Str := ["box"]
abbrev pm_slack_of : List Str := ["box"]
theorem sc_slack_of : FnScope nm_slack_of pm_slack_of (defScope s_slack_of) := ⟨rfl, rfl, rfl, by decide +kernel, rfl, by decide +kernel, by decide +kernel⟩

abbrev s_check_lull : Stmt := top 31
abbrev nm_check_lull : List Str := ["delay", "turn", "losses"]
abbrev pm_check_lull : List Str := ["delay", "turn", "losses"]
theorem sc_check_lull : FnScope nm_check_lull pm_check_lull (defScope s_check_lull) := ⟨rfl, rfl, rfl, by decide +kernel, rfl, by decide +kernel, by decide +kernel⟩

abbrev s_check_quiet : Stmt := top 32
abbrev nm_check_quiet : List Str := ["quiet"]
abbrev pm_check_quiet : List Str := ["quiet"]
theorem sc_check_quiet : FnScope nm_check_quiet pm_check_quiet (defScope s_check_quiet) := ⟨rfl, rfl, rfl, by decide +kernel, rfl, by decide +kernel, by decide +kernel⟩

abbrev s_Road_init : Stmt := inClass (top 33) 0
abbrev nm_Road_init : List Str := ["self", "way", "last", "turn", "losses", "rows", "quiet", "period", "first", "end"]
abbrev pm_Road_init : List Str := ["self", "way", "last", "turn", "losses", "rows", "quiet", "period"]
theorem sc_Road_init : FnScope nm_Road_init pm_Road_init (defScope s_Road_init) := ⟨rfl, rfl, rfl, by decide +kernel, rfl, by decide +kernel, by decide +kernel⟩

abbrev s_Road_eq : Stmt := inClass (top 33) 1
abbrev nm_Road_eq : List Str := ["self", "other"]
abbrev pm_Road_eq : List Str := ["self", "other"]
theorem sc_Road_eq : FnScope nm_Road_eq pm_Road_eq (defScope s_Road_eq) := ⟨rfl, rfl, rfl, by decide +kernel, rfl, by decide +kernel, by decide +kernel⟩

abbrev s_Lull_init : Stmt := inClass (top 34) 0
abbrev nm_Lull_init : List Str := ["self", "delay", "turn", "losses", "quiet"]
abbrev pm_Lull_init : List Str := ["self", "delay", "turn", "losses", "quiet"]
theorem sc_Lull_init : FnScope nm_Lull_init pm_Lull_init (defScope s_Lull_init) := ⟨rfl, rfl, rfl, by decide +kernel, rfl, by decide +kernel, by decide +kernel⟩

abbrev s_Lull_eq : Stmt := inClass (top 34) 1
abbrev nm_Lull_eq : List Str := ["self", "other"]
abbrev pm_Lull_eq : List Str := ["self", "other"]
theorem sc_Lull_eq : FnScope nm_Lull_eq pm_Lull_eq (defScope s_Lull_eq) := ⟨rfl, rfl, rfl, by decide +kernel, rfl, by decide +kernel, by decide +kernel⟩

abbrev s_lull_of : Stmt := top 35
abbrev nm_lull_of : List Str := ["road"]
abbrev pm_lull_of : List Str := ["road"]
theorem sc_lull_of : FnScope nm_lull_of pm_lull_of (defScope s_lull_of) := ⟨rfl, rfl, rfl, by decide +kernel, rfl, by decide +kernel, by decide +kernel⟩

abbrev s_stops_of : Stmt := top 37
abbrev nm_stops_of : List Str := ["lull", "signs", "sent", "lost"]
abbrev pm_stops_of : List Str := ["lull", "signs"]
theorem sc_stops_of : FnScope nm_stops_of pm_stops_of (defScope s_stops_of) := ⟨rfl, rfl, rfl, by decide +kernel, rfl, by decide +kernel, by decide +kernel⟩

abbrev s_widest : Stmt := top 38
abbrev nm_widest : List Str := ["lull", "told", "behind", "sooner", "later"]
abbrev pm_widest : List Str := ["lull", "told"]
theorem sc_widest : FnScope nm_widest pm_widest (defScope s_widest) := ⟨rfl, rfl, rfl, by decide +kernel, rfl, by decide +kernel, by decide +kernel⟩

abbrev s_signs_each : Stmt := top 39
abbrev nm_signs_each : List Str := ["lull", "period"]
abbrev pm_signs_each : List Str := ["lull", "period"]
theorem sc_signs_each : FnScope nm_signs_each pm_signs_each (defScope s_signs_each) := ⟨rfl, rfl, rfl, by decide +kernel, rfl, by decide +kernel, by decide +kernel⟩

abbrev s_race_gap : Stmt := top 40
abbrev nm_race_gap : List Str := ["road"]
abbrev pm_race_gap : List Str := ["road"]
theorem sc_race_gap : FnScope nm_race_gap pm_race_gap (defScope s_race_gap) := ⟨rfl, rfl, rfl, by decide +kernel, rfl, by decide +kernel, by decide +kernel⟩

abbrev s_row_gap : Stmt := top 41
abbrev nm_row_gap : List Str := ["road", "row"]
abbrev pm_row_gap : List Str := ["road"]
theorem sc_row_gap : FnScope nm_row_gap pm_row_gap (defScope s_row_gap) := ⟨rfl, rfl, rfl, by decide +kernel, rfl, by decide +kernel, by decide +kernel⟩

abbrev s_rest_gap : Stmt := top 42
abbrev nm_rest_gap : List Str := ["road", "lull"]
abbrev pm_rest_gap : List Str := ["road"]
theorem sc_rest_gap : FnScope nm_rest_gap pm_rest_gap (defScope s_rest_gap) := ⟨rfl, rfl, rfl, by decide +kernel, rfl, by decide +kernel, by decide +kernel⟩

abbrev s_gaps_told : Stmt := top 43
abbrev nm_gaps_told : List Str := ["road", "pairs", "word", "gap"]
abbrev pm_gaps_told : List Str := ["road"]
theorem sc_gaps_told : FnScope nm_gaps_told pm_gaps_told (defScope s_gaps_told) := ⟨rfl, rfl, rfl, by decide +kernel, rfl, by decide +kernel, by decide +kernel⟩

abbrev s_greatest_gap : Stmt := top 44
abbrev nm_greatest_gap : List Str := ["road", "_", "gap"]
abbrev pm_greatest_gap : List Str := ["road"]
theorem sc_greatest_gap : FnScope nm_greatest_gap pm_greatest_gap (defScope s_greatest_gap) := ⟨rfl, rfl, rfl, by decide +kernel, rfl, by decide +kernel, by decide +kernel⟩

abbrev s_gap_kind : Stmt := top 45
abbrev nm_gap_kind : List Str := ["road", "greatest", "words", "word", "gap"]
abbrev pm_gap_kind : List Str := ["road"]
theorem sc_gap_kind : FnScope nm_gap_kind pm_gap_kind (defScope s_gap_kind) := ⟨rfl, rfl, rfl, by decide +kernel, rfl, by decide +kernel, by decide +kernel⟩

abbrev s_is_kept : Stmt := top 46
abbrev nm_is_kept : List Str := ["road", "greatest", "box"]
abbrev pm_is_kept : List Str := ["road"]
theorem sc_is_kept : FnScope nm_is_kept pm_is_kept (defScope s_is_kept) := ⟨rfl, rfl, rfl, by decide +kernel, rfl, by decide +kernel, by decide +kernel⟩

abbrev s__law_pool : Stmt := top 48
abbrev nm__law_pool : List Str := ["_law_script", "_law_k", "_law_cell", "_law_big", "_law_mixed"]
abbrev pm__law_pool : List Str := ["_law_script", "_law_k"]
theorem sc__law_pool : FnScope nm__law_pool pm__law_pool (defScope s__law_pool) := ⟨rfl, rfl, rfl, by decide +kernel, rfl, by decide +kernel, by decide +kernel⟩

abbrev s__law_take : Stmt := top 49
abbrev nm__law_take : List Str := ["_law_pool_here", "_law_bound", "_law_result"]
abbrev pm__law_take : List Str := ["_law_pool_here", "_law_bound"]
theorem sc__law_take : FnScope nm__law_take pm__law_take (defScope s__law_take) := ⟨rfl, rfl, rfl, by decide +kernel, rfl, by decide +kernel, by decide +kernel⟩

abbrev s__law_one : Stmt := top 50
abbrev nm__law_one : List Str := ["_law_pool_here", "_law_things"]
abbrev pm__law_one : List Str := ["_law_pool_here", "_law_things"]
theorem sc__law_one : FnScope nm__law_one pm__law_one (defScope s__law_one) := ⟨rfl, rfl, rfl, by decide +kernel, rfl, by decide +kernel, by decide +kernel⟩

abbrev s__law_stops : Stmt := top 51
abbrev nm__law_stops : List Str := ["_law_plain", "_law_signs_here", "_law_delay", "_law_turn", "_law_losses", "_law_quiet", "_law_at"]
abbrev pm__law_stops : List Str := ["_law_plain", "_law_signs_here"]
theorem sc__law_stops : FnScope nm__law_stops pm__law_stops (defScope s__law_stops) := ⟨rfl, rfl, rfl, by decide +kernel, rfl, by decide +kernel, by decide +kernel⟩

abbrev s__law_gap : Stmt := top 52
abbrev nm__law_gap : List Str := ["_law_plain", "_law_signs_here", "_law_found", "_law_step", "_law_best", "_law_place"]
abbrev pm__law_gap : List Str := ["_law_plain", "_law_signs_here"]
theorem sc__law_gap : FnScope nm__law_gap pm__law_gap (defScope s__law_gap) := ⟨rfl, rfl, rfl, by decide +kernel, rfl, by decide +kernel, by decide +kernel⟩

abbrev s__law_road : Stmt := top 53
abbrev nm__law_road : List Str := ["_law_pool_here", "_law_most", "_law_origin", "_law_least", "_law_delay", "_law_boxes", "_law_turn", "_law_near", "_law_far", "_law_low", "_law_last", "_law_rows"]
abbrev pm__law_road : List Str := ["_law_pool_here", "_law_most"]
theorem sc__law_road : FnScope nm__law_road pm__law_road (defScope s__law_road) := ⟨rfl, rfl, rfl, by decide +kernel, rfl, by decide +kernel, by decide +kernel⟩

abbrev s__law_made : Stmt := top 54
abbrev nm__law_made : List Str := ["_law_plain", "_law_way"]
abbrev pm__law_made : List Str := ["_law_plain"]
theorem sc__law_made : FnScope nm__law_made pm__law_made (defScope s__law_made) := ⟨rfl, rfl, rfl, by decide +kernel, rfl, by decide +kernel, by decide +kernel⟩

abbrev s__law_gaps : Stmt := top 55
abbrev nm__law_gaps : List Str := ["_law_plain", "_law_delay", "_law_turn", "_law_losses", "_law_rows", "_law_quiet", "_law_period", "_law_found", "_law_count"]
abbrev pm__law_gaps : List Str := ["_law_plain"]
theorem sc__law_gaps : FnScope nm__law_gaps pm__law_gaps (defScope s__law_gaps) := ⟨rfl, rfl, rfl, by decide +kernel, rfl, by decide +kernel, by decide +kernel⟩

abbrev s__law_next : Stmt := top 56
abbrev nm__law_next : List Str := ["_law_plain", "_law_row", "_law_left", "_law_moment", "_law_rows", "_law_quiet", "_law_period", "_law_at"]
abbrev pm__law_next : List Str := ["_law_plain", "_law_row", "_law_left", "_law_moment"]
theorem sc__law_next : FnScope nm__law_next pm__law_next (defScope s__law_next) := ⟨rfl, rfl, rfl, by decide +kernel, rfl, by decide +kernel, by decide +kernel⟩

abbrev s__law_played : Stmt := top 57
abbrev nm__law_played : List Str := ["_law_plain", "_law_moment", "_law_row", "_law_left", "_law_losses", "_law_seen", "_law_gap_here", "_law_found", "_law_back", "_law_later", "_law_number"]
abbrev pm__law_played : List Str := ["_law_plain", "_law_moment", "_law_row", "_law_left", "_law_losses", "_law_seen"]
theorem sc__law_played : FnScope nm__law_played pm__law_played (defScope s__law_played) := ⟨rfl, rfl, rfl, by decide +kernel, rfl, by decide +kernel, by decide +kernel⟩

abbrev s__law_signs : Stmt := top 58
abbrev nm__law_signs : List Str := ["_law_plain", "_law_later", "_law_losses", "_law_seen", "_law_signs_here", "_law_moment", "_law_row", "_law_left", "_law_rest", "_law_found", "_law_number"]
abbrev pm__law_signs : List Str := ["_law_plain", "_law_later", "_law_losses", "_law_seen"]
theorem sc__law_signs : FnScope nm__law_signs pm__law_signs (defScope s__law_signs) := ⟨rfl, rfl, rfl, by decide +kernel, rfl, by decide +kernel, by decide +kernel⟩

abbrev s__law_small : Stmt := top 59
abbrev nm__law_small : List Str := ["_law_pool_here", "_law_plain", "_law_turn"]
abbrev pm__law_small : List Str := ["_law_pool_here"]
theorem sc__law_small : FnScope nm__law_small pm__law_small (defScope s__law_small) := ⟨rfl, rfl, rfl, by decide +kernel, rfl, by decide +kernel, by decide +kernel⟩

abbrev s__law_told_right : Stmt := top 60
abbrev nm__law_told_right : List Str := ["_law_plain", "_law_road_here", "_law_gaps_here", "_law_named", "_law_most", "_law_kinds", "_law_kind", "_law_gap_here", "_law_box"]
abbrev pm__law_told_right : List Str := ["_law_plain"]
theorem sc__law_told_right : FnScope nm__law_told_right pm__law_told_right (defScope s__law_told_right) := ⟨rfl, rfl, rfl, by decide +kernel, rfl, by decide +kernel, by decide +kernel⟩

abbrev s_law : Stmt := top 61
abbrev nm_law : List Str := ["_law_script", "_law_k", "_law_pool_here", "_law_plain", "_law_turn"]
abbrev pm_law : List Str := ["_law_script"]
theorem sc_law : FnScope nm_law pm_law (defScope s_law) := ⟨rfl, rfl, rfl, by decide +kernel, rfl, by decide +kernel, by decide +kernel⟩

structure Ad where
  (BadPart BadBox WholeError Way Road Lull T0 : Addr)
structure Txt (K : PySem.W.Frag) (mg : Str → Option Value) (A : Ad) : Prop where
  n_isinstance : mg "isinstance" = none
  n_int : mg "int" = none
  n_bool : mg "bool" = none
  n_list : mg "list" = none
  n_tuple : mg "tuple" = none
  n_len : mg "len" = none
  n_range : mg "range" = none
  n_max : mg "max" = none
  n_min : mg "min" = none
  n_enumerate : mg "enumerate" = none
  n_all : mg "all" = none
  n_any : mg "any" = none
  n_zip : mg "zip" = none
  n_dict : mg "dict" = none
  g_MOST_BEGIN : ∃ t, mg "MOST_BEGIN" = some (.int 1000 t)
  g_MOST_DELAY : ∃ t, mg "MOST_DELAY" = some (.int 50 t)
  g_MOST_BOXES : ∃ t, mg "MOST_BOXES" = some (.int 3 t)
  g_MOST_KEEP : ∃ t, mg "MOST_KEEP" = some (.int 10000 t)
  g_MOST_TURN : ∃ t, mg "MOST_TURN" = some (.int 200 t)
  g_MOST_ROWS : ∃ t, mg "MOST_ROWS" = some (.int 3 t)
  g_MOST_PARCELS : ∃ t, mg "MOST_PARCELS" = some (.int 600 t)
  g_MOST_QUIET : ∃ t, mg "MOST_QUIET" = some (.int 500 t)
  g_MOST_LOST : ∃ t, mg "MOST_LOST" = some (.int 3 t)
  g_MOST_PERIOD : ∃ t, mg "MOST_PERIOD" = some (.int 200 t)
  Way : ClsX K mg "Way" A.Way
  w_begin : NoAttr K A.Way "begin"
  w_least : NoAttr K A.Way "least"
  w_most : NoAttr K A.Way "most"
  w_boxes : NoAttr K A.Way "boxes"
  Road : ClsX K mg "Road" A.Road
  r_way : NoAttr K A.Road "way"
  r_last : NoAttr K A.Road "last"
  r_turn : NoAttr K A.Road "turn"
  r_losses : NoAttr K A.Road "losses"
  r_rows : NoAttr K A.Road "rows"
  r_quiet : NoAttr K A.Road "quiet"
  r_period : NoAttr K A.Road "period"
  Lull : ClsX K mg "Lull" A.Lull
  c_delay : NoAttr K A.Lull "delay"
  c_turn : NoAttr K A.Lull "turn"
  c_losses : NoAttr K A.Lull "losses"
  c_quiet : NoAttr K A.Lull "quiet"
  BadPart : XAt K mg "BadPart" "part" A.BadPart s_BadPart_init "BadPart.__init__"
  BadBox : XAt K mg "BadBox" "index" A.BadBox s_BadBox_init "BadBox.__init__"
  g_WholeError : mg "WholeError" = some (.ref A.WholeError)
  x_pp : PySem.W.exmOne K (.ref A.BadPart) (.ref A.BadPart) = some true
  k_pw : PySem.W.kitOne K (.ref A.BadPart) (.ref A.WholeError) = some true
  t0 : ∀ H, SqT K H A.T0 []
section
variable {P : Program} {w : World} {K : PySem.W.Frag} {mg : Str → Option Value} {base : Heap} {A : Ad}
theorem ok_xp {f : Addr} {fd : FuncData} (F : Fun K "__init__" "BadPart.__init__" s_BadPart_init f fd) (T : Txt K mg A) : FnOk P w K mg base CX0 1 f fd ["self", "part"] (spXI A.BadPart "part") := by
  refine F.ok sc_BadPart_init (fun vs H Q E h => ?_) (fun cdv A' outer s H vs Q E hr h => ?_)
  · obtain ⟨a, y, rfl, _⟩ := h
    rfl
  · obtain ⟨a, y, rfl, ha, q⟩ := h
    refine ⟨_, pss_one (ps_ost (pv 0) (pv 1)), ?_⟩
    exact ⟨_, rfl, _, rfl, a, A.BadPart, rfl, T.BadPart.ox, T.BadPart.noA, .inl ⟨ha, fun dx h1 h2 => q dx h1 h2⟩⟩
theorem ok_xb {f : Addr} {fd : FuncData} (F : Fun K "__init__" "BadBox.__init__" s_BadBox_init f fd) (T : Txt K mg A) : FnOk P w K mg base CX0 1 f fd ["self", "index"] (spXI A.BadBox "index") := by
  refine F.ok sc_BadBox_init (fun vs H Q E h => ?_) (fun cdv A' outer s H vs Q E hr h => ?_)
  · obtain ⟨a, y, rfl, _⟩ := h
    rfl
  · obtain ⟨a, y, rfl, ha, q⟩ := h
    refine ⟨_, pss_one (ps_ost (pv 0) (pv 1)), ?_⟩
    exact ⟨_, rfl, _, rfl, a, A.BadBox, rfl, T.BadBox.ox, T.BadBox.noA, .inl ⟨ha, fun dx h1 h2 => q dx h1 h2⟩⟩
/-! kinds, told by the data -/
def spInteger (K : PySem.W.Frag) : Sp := fun vs H Q _ => ∃ v d, vs = [v] ∧ Dp K H v d ∧ Q (.bl (isIntD d && !isBoolD d)) H
theorem ok_integer {f : Addr} {fd : FuncData} (F : Fun K "is_integer" "is_integer" s_is_integer f fd) (T : Txt K mg A) : FnOk P w K mg base CX0 1 f fd pm_is_integer (spInteger K) := by
  refine F.ok sc_is_integer (fun vs H Q E h => ?_) (fun cdv A' outer s H vs Q E hr h => ?_)
  · obtain ⟨v, k, rfl, _⟩ := h
    rfl
  · obtain ⟨v, d, rfl, hk, q⟩ := h
    refine ⟨_, pss_one (ps_ret (pe_and (pe_callB call_isi (by rfl) T.n_isinstance (by decide +kernel) (pa_cons (pv 0) (pa_cons (pe_bltn (v := .ty "int") (by rfl) T.n_int (by decide +kernel) rfl) pa_nil))) (pe_one (pe_not (pe_callB call_isi (by rfl) T.n_isinstance (by decide +kernel) (pa_cons (pv 0) (pa_cons (pe_bltn (v := .ty "bool") (by rfl) T.n_bool (by decide +kernel) rfl) pa_nil))))))), ?_⟩
    refine ⟨v, rfl, v, .ty "int", .type (tnD d), .type "int", isIntD d, rfl, .ty _, dp_ty hk, kd_int, _, rfl, ?_⟩
    cases h1 : isIntD d with
    | true =>
      rw [h1] at q
      exact iteT ⟨v, rfl, v, .ty "bool", .type (tnD d), .type "bool", isBoolD d, rfl, .ty _, dp_ty hk, kd_bool, _, rfl, q⟩
    | false =>
      rw [h1] at q
      exact iteF q
def spBetween (K : PySem.W.Frag) : Sp := fun vs H Q _ => ∃ v d a b, vs = [v, .int a, .int b] ∧ Dp K H v d ∧ Q (.bl (betD d a b)) H
theorem ok_between {f : Addr} {fd : FuncData} (F : Fun K "is_between" "is_between" s_is_between f fd) (O_is_integer : Own P w K mg base CX0 "is_integer" 1 pm_is_integer (spInteger K)) : FnOk P w K mg base CX0 2 f fd pm_is_between (spBetween K) := by
  refine F.ok sc_is_between (fun vs H Q E h => ?_) (fun cdv A' outer s H vs Q E hr h => ?_)
  · obtain ⟨v, k, a, b, rfl, _⟩ := h
    rfl
  · obtain ⟨v, d, a, b, rfl, hk, q⟩ := h
    refine ⟨_, pss_one (ps_ret (pe_and (pe_own O_is_integer (hr.mono (by decide)) pass0 (pa_cons (pv 0) pa_nil)) (pe_one (pe_chain op_le op_le (pv 1) (pv 0) (pv 2))))), ?_⟩
    refine ⟨v, rfl, v, d, rfl, hk, _, rfl, ?_⟩
    cases h1 : (isIntD d && !isBoolD d) with
    | true =>
      obtain ⟨n, rfl⟩ := int_yes h1
      obtain rfl := dp_int hk
      refine iteT ⟨_, rfl, _, rfl, _, _, rfl, rfl, _, rfl, ?_⟩
      rw [bet_int] at q
      cases h2 : decide (a ≤ n) with
      | true =>
        rw [h2] at q
        exact iteT ⟨_, rfl, _, _, rfl, rfl, q⟩
      | false =>
        rw [h2] at q
        exact iteF q
    | false =>
      rw [bet_not h1] at q
      exact iteF q
def spIsList (K : PySem.W.Frag) : Sp := fun vs H Q _ => ∃ v t k, vs = [v] ∧ (∀ H', Ext H H' → TyX K H' v t) ∧ PySem.W.kitAny K t [.type "list", .type "tuple"] = some k ∧ ∀ H', Ext H H' → Q (.bl k) H'
theorem ok_isList {f : Addr} {fd : FuncData} (F : Fun K "is_list" "is_list" s_is_list f fd) (T : Txt K mg A) : FnOk P w K mg base CX0 1 f fd pm_is_list (spIsList K) := by
  refine F.ok sc_is_list (fun vs H Q E h => ?_) (fun cdv A' outer s H vs Q E hr h => ?_)
  · obtain ⟨v, t, k, rfl, _⟩ := h
    rfl
  · obtain ⟨v, t, k, rfl, hk, hs, q⟩ := h
    refine ⟨_, pss_one (ps_ret (pe_callB call_isiT (by rfl) T.n_isinstance (by decide +kernel) (pa_cons (pv 0) (pa_cons (pe_tup (pa_cons (pe_bltn (v := .ty "list") (by rfl) T.n_list (by decide +kernel) rfl) (pa_cons (pe_bltn (v := .ty "tuple") (by rfl) T.n_tuple (by decide +kernel) rfl) pa_nil))) pa_nil)))), ?_⟩
    refine ⟨v, rfl, by show 2 ≤ sizeLine; decide, fun p hp => ?_⟩
    exact ⟨v, p, [.ty "list", .ty "tuple"], t, [.type "list", .type "tuple"], k, rfl, upd_same, .cons (.ty _) (.cons (.ty _) .nil), hk _ (Ext.upd hp), hs, q _ (Ext.upd hp)⟩
def spListOf (K : PySem.W.Frag) : Sp := fun vs H Q _ => ∃ v t k a b xs, vs = [v, .int a, .int b] ∧ (∀ H', Ext H H' → TyX K H' v t) ∧ PySem.W.kitAny K t [.type "list", .type "tuple"] = some k ∧ (k = true → ∃ p, v = .ref p ∧ (SqL K H p xs ∨ SqT K H p xs)) ∧
  ∀ H', Ext H H' → Q (.bl (k && (decide (a ≤ (xs.length : Int)) && decide ((xs.length : Int) ≤ b)))) H'
theorem dp_lenD {H : Hp} {xs : List V} {ds : List PyData} {d : PyData} (ha : DpAll K H xs ds) (h : d = .list ds ∨ d = .tuple ds) : lenD d = xs.length := by
  rw [dps_len ha]
  rcases h with rfl | rfl <;> rfl
theorem ok_listOf {f : Addr} {fd : FuncData} (F : Fun K "is_list_of" "is_list_of" s_is_list_of f fd) (T : Txt K mg A) (O_is_list : Own P w K mg base CX0 "is_list" 1 pm_is_list (spIsList K)) : FnOk P w K mg base CX0 2 f fd pm_is_list_of (spListOf K) := by
  refine F.ok sc_is_list_of (fun vs H Q E h => ?_) (fun cdv A' outer s H vs Q E hr h => ?_)
  · obtain ⟨v, t, k, a, b, xs, rfl, _⟩ := h
    rfl
  · obtain ⟨v, t, k, a, b, xs, rfl, hk, hs, hq, q⟩ := h
    refine ⟨_, pss_one (ps_ret (pe_and (pe_own O_is_list (hr.mono (by decide)) pass0 (pa_cons (pv 0) pa_nil)) (pe_one (pe_chain op_le op_le (pv 1) (pe_callB call_len_seq (by rfl) T.n_len (by decide +kernel) (pa_cons (pv 0) pa_nil)) (pv 2))))), ?_⟩
    refine ⟨v, rfl, v, t, k, rfl, hk, hs, fun H1 e1 => ⟨_, rfl, ?_⟩⟩
    have q1 := q H1 e1
    cases k with
    | false => exact iteF q1
    | true =>
      obtain ⟨p, rfl, hx⟩ := hq rfl
      refine iteT ⟨_, rfl, _, rfl, p, xs, rfl, hx.imp (fun h => h.ext e1) (fun h => h.ext e1), _, _, rfl, rfl, _, rfl, ?_⟩
      cases h2 : decide (a ≤ (xs.length : Int)) with
      | true =>
        rw [h2] at q1
        exact iteT ⟨_, rfl, _, _, rfl, rfl, q1⟩
      | false =>
        rw [h2] at q1
        exact iteF q1
/-- from the data -/
theorem listOf_key {H : Hp} {v : V} {d : PyData} (h : Dp K H v d) : ∃ t xs, (∀ H', Ext H H' → TyX K H' v t) ∧ PySem.W.kitAny K t [.type "list", .type "tuple"] = some (isSeqD d) ∧ (isSeqD d = true → ∃ p, v = .ref p ∧ (SqL K H p xs ∨ SqT K H p xs)) ∧
    ∀ a b : Int, (isSeqD d && (decide (a ≤ (xs.length : Int)) && decide ((xs.length : Int) ≤ b))) = (isSeqD d && (decide (a ≤ (lenD d : Int)) && decide ((lenD d : Int) ≤ b))) := by
  cases hs : isSeqD d with
  | false => exact ⟨_, [], fun H' e => dp_ty (dp_ext e _ _ h), by rw [kd_seq, hs], (fun z => nomatch z), fun a b => rfl⟩
  | true =>
    obtain ⟨p, xs, ds, rfl, hx, ha, hd⟩ := dp_seq h hs
    exact ⟨_, xs, fun H' e => dp_ty (dp_ext e _ _ h), by rw [kd_seq, hs], fun _ => ⟨p, rfl, hx⟩, fun a b => by rw [dp_lenD ha hd]⟩
def spTupleOf (K : PySem.W.Frag) : Sp := fun vs H Q _ => ∃ v d a, vs = [v, .int a] ∧ Dp K H v d ∧ Q (.bl (isTupD d && decide ((lenD d : Int) = a))) H
theorem dvi {a b : Int} : decide (V.int a = V.int b) = decide (a = b) := by simp
theorem ok_tupleOf {f : Addr} {fd : FuncData} (F : Fun K "is_tuple_of" "is_tuple_of" s_is_tuple_of f fd) (T : Txt K mg A) : FnOk P w K mg base CX0 1 f fd pm_is_tuple_of (spTupleOf K) := by
  refine F.ok sc_is_tuple_of (fun vs H Q E h => ?_) (fun cdv A' outer s H vs Q E hr h => ?_)
  · obtain ⟨v, d, a, rfl, _⟩ := h
    rfl
  · obtain ⟨v, d, a, rfl, hk, q⟩ := h
    refine ⟨_, pss_one (ps_ret (pe_and (pe_callB call_isi (by rfl) T.n_isinstance (by decide +kernel) (pa_cons (pv 0) (pa_cons (pe_bltn (v := .ty "tuple") (by rfl) T.n_tuple (by decide +kernel) rfl) pa_nil))) (pe_one (pe_cmpR op_eq (pe_callB call_len_seq (by rfl) T.n_len (by decide +kernel) (pa_cons (pv 0) pa_nil)) (pv 1) (nomark _))))), ?_⟩
    refine ⟨v, rfl, v, .ty "tuple", .type (tnD d), .type "tuple", isTupD d, rfl, .ty _, dp_ty hk, kd_tup, _, rfl, ?_⟩
    cases h1 : isTupD d with
    | true =>
      rw [h1] at q
      obtain ⟨p, xs, ds, rfl, hx, ha, hd⟩ := dp_tup hk h1
      rw [dp_lenD ha (.inr hd)] at q
      refine iteT ⟨_, rfl, p, xs, rfl, .inr hx, _, rfl, rfl, ?_⟩
      show Q (.bl (decide (V.int (xs.length : Int) = V.int a))) H
      rw [dvi]
      exact q
    | false =>
      rw [h1] at q
      exact iteF q
/-! what a way is made of -/
def beginD (d : PyData) : Bool := isNoneD d || betD d 0 1000
def spBegin (K : PySem.W.Frag) : Sp := fun vs H Q _ => ∃ v d, vs = [v] ∧ Dp K H v d ∧ Q (.bl (beginD d)) H
theorem ok_begin {f : Addr} {fd : FuncData} (F : Fun K "is_begin" "is_begin" s_is_begin f fd) (T : Txt K mg A) (O_is_between : Own P w K mg base CX0 "is_between" 2 pm_is_between (spBetween K)) : FnOk P w K mg base CX0 3 f fd pm_is_begin (spBegin K) := by
  refine F.ok sc_is_begin (fun vs H Q E h => ?_) (fun cdv A' outer s H vs Q E hr h => ?_)
  · obtain ⟨v, d, rfl, _⟩ := h
    rfl
  · obtain ⟨v, d, rfl, hk, q⟩ := h
    refine ⟨_, pss_one (ps_ret (pe_or (pe_cmpR op_isN (pv 0) (pe_non) (nomark _)) (pe_one (pe_own O_is_between (hr.mono (by decide)) pass0 (pa_cons (pv 0) (pa_cons (pe_int) (pa_cons (pe_gint T.g_MOST_BEGIN) pa_nil))))))), ?_⟩
    cases hk with
    | non => exact ⟨_, rfl, rfl, _, rfl, iteT q⟩
    | bl b => exact ⟨_, rfl, rfl, _, rfl, iteF ⟨_, rfl, _, _, 0, 1000, rfl, .bl b, q⟩⟩
    | int i => exact ⟨_, rfl, rfl, _, rfl, iteF ⟨_, rfl, _, _, 0, 1000, rfl, .int i, q⟩⟩
    | str b => exact ⟨_, rfl, rfl, _, rfl, iteF ⟨_, rfl, _, _, 0, 1000, rfl, .str b, q⟩⟩
    | lst a b => exact ⟨_, rfl, rfl, _, rfl, iteF ⟨_, rfl, _, _, 0, 1000, rfl, .lst a b, q⟩⟩
    | tup a b => exact ⟨_, rfl, rfl, _, rfl, iteF ⟨_, rfl, _, _, 0, 1000, rfl, .tup a b, q⟩⟩
def delaysD : PyData → PyData → Bool
  | .int l, .int m => decide (1 ≤ l) && decide (l ≤ m) && decide (m ≤ 50)
  | _, _ => false
def spDelays (K : PySem.W.Frag) : Sp := fun vs H Q _ => ∃ v u d e, vs = [v, u] ∧ Dp K H v d ∧ Dp K H u e ∧ Q (.bl (delaysD d e)) H
theorem delays_m {d e : PyData} (h : betD e 1 50 = false) : delaysD d e = false := by
  cases e <;> first | (cases d <;> rfl) | skip
  rename_i m
  cases d <;> first | rfl | skip
  rename_i l
  rw [bet_int] at h
  simp only [delaysD]
  simp at h ⊢
  omega
theorem delays_l {d : PyData} {m : Int} (h1 : 1 ≤ m ∧ m ≤ 50) : delaysD d (.int m) = betD d 1 m := by
  cases d <;> first | rfl | skip
  rename_i l
  rw [bet_int]
  simp only [delaysD]
  rw [decide_eq_true h1.2, Bool.and_true]
theorem ok_delays {f : Addr} {fd : FuncData} (F : Fun K "are_delays" "are_delays" s_are_delays f fd) (T : Txt K mg A) (O_is_between : Own P w K mg base CX0 "is_between" 2 pm_is_between (spBetween K)) : FnOk P w K mg base CX0 3 f fd pm_are_delays (spDelays K) := by
  refine F.ok sc_are_delays (fun vs H Q E h => ?_) (fun cdv A' outer s H vs Q E hr h => ?_)
  · obtain ⟨v, u, d, e, rfl, _⟩ := h
    rfl
  · obtain ⟨v, u, d, e, rfl, hk, hu, q⟩ := h
    refine ⟨_, pss_one (ps_ret (pe_and (pe_own O_is_between (hr.mono (by decide)) pass0 (pa_cons (pv 1) (pa_cons (pe_int) (pa_cons (pe_gint T.g_MOST_DELAY) pa_nil)))) (pe_one (pe_own O_is_between (hr.mono (by decide)) pass0 (pa_cons (pv 0) (pa_cons (pe_int) (pa_cons (pv 1) pa_nil))))))), ?_⟩
    refine ⟨u, rfl, u, e, 1, 50, rfl, hu, _, rfl, ?_⟩
    cases h1 : betD e 1 50 with
    | false =>
      rw [delays_m h1] at q
      exact iteF q
    | true =>
      obtain ⟨m, rfl, m1, m2⟩ := bet_yes h1
      obtain rfl := dp_int hu
      rw [delays_l ⟨m1, m2⟩] at q
      exact iteT ⟨v, rfl, _, rfl, v, d, 1, m, rfl, hk, q⟩
end
end K29

set_option Elab.async false
set_option maxRecDepth 100000
set_option maxHeartbeats 4000000
namespace K29
open PySem PySem.Spec PyProof.Rows L2
section
variable {P : Program} {w : World} {K : PySem.W.Frag} {mg : Str → Option Value} {base : Heap} {A : Ad}
def boxD (d : PyData) (l m : Int) : Bool := match d with
  | .tuple [.int n, .int f, .int s, .int g] => decide (0 ≤ n ∧ n ≤ f ∧ f ≤ m ∧ n ≤ l ∧ 1 ≤ s ∧ s ≤ g ∧ g ≤ 10000)
  | _ => false
theorem box_f {a b c d : PyData} {l m : Int} (h : betD b 0 m = false) : boxD (.tuple [a, b, c, d]) l m = false := by
  cases a <;> first | rfl | skip
  cases b <;> first | rfl | skip
  cases c <;> first | rfl | skip
  cases d <;> first | rfl | skip
  rw [bet_int] at h
  simp at h
  simp only [boxD]
  rw [decide_eq_false (by omega)]
theorem box_n {a c d : PyData} {f l m : Int} (h : betD a 0 f = false) : boxD (.tuple [a, .int f, c, d]) l m = false := by
  cases a <;> first | rfl | skip
  cases c <;> first | rfl | skip
  cases d <;> first | rfl | skip
  rw [bet_int] at h
  simp at h
  simp only [boxD]
  rw [decide_eq_false (by omega)]
theorem box_l {c d : PyData} {n f l m : Int} (h : l < n) : boxD (.tuple [.int n, .int f, c, d]) l m = false := by
  cases c <;> first | rfl | skip
  cases d <;> first | rfl | skip
  simp only [boxD]
  rw [decide_eq_false (by omega)]
theorem box_g {c d : PyData} {n f l m : Int} (h : betD d 1 10000 = false) : boxD (.tuple [.int n, .int f, c, d]) l m = false := by
  cases c <;> first | rfl | skip
  cases d <;> first | rfl | skip
  rw [bet_int] at h
  simp at h
  simp only [boxD]
  rw [decide_eq_false (by omega)]
theorem box_s {c : PyData} {n f g l m : Int} (h : 0 ≤ n ∧ n ≤ f ∧ f ≤ m ∧ n ≤ l ∧ g ≤ 10000) : boxD (.tuple [.int n, .int f, c, .int g]) l m = betD c 1 g := by
  cases c <;> first | rfl | skip
  simp only [boxD]
  rw [bet_int, Bool.eq_iff_iff]
  simp
  omega
theorem box_t {d : PyData} {l m : Int} (h : (isTupD d && decide ((lenD d : Int) = 4)) = false) : boxD d l m = false := by
  unfold boxD
  split
  · exact absurd h (by simp [isTupD, lenD])
  · rfl
def spBoxOk (K : PySem.W.Frag) : Sp := fun vs H Q _ => ∃ v d l m, vs = [v, .int l, .int m] ∧ Dp K H v d ∧ Q (.bl (boxD d l m)) H
theorem ok_box {f : Addr} {fd : FuncData} (F : Fun K "is_box" "is_box" s_is_box f fd) (T : Txt K mg A) (O_is_between : Own P w K mg base CX0 "is_between" 2 pm_is_between (spBetween K)) (O_is_tuple_of : Own P w K mg base CX0 "is_tuple_of" 1 pm_is_tuple_of (spTupleOf K)) : FnOk P w K mg base CX0 3 f fd pm_is_box (spBoxOk K) := by
  refine F.ok sc_is_box (fun vs H Q E h => ?_) (fun cdv A' outer s H vs Q E hr h => ?_)
  · obtain ⟨v, d, l, m, rfl, _⟩ := h
    rfl
  · obtain ⟨v, d, l, m, rfl, hk, q⟩ := h
    refine ⟨_, pss_cons (ps_if (pt_not (pt_val (pe_own O_is_tuple_of (hr.mono (by decide)) pass0 (pa_cons (pv 0) (pa_cons (pe_int) pa_nil))))) (pss_one (ps_ret (pe_bl))) (pss_nil))
      (pss_cons (ps_asg (pv 0) (pg_tup rfl (pgs_cons (pg_name (i := 3) sc_is_box.nd rfl (Or.inl rfl)) (pgs_cons (pg_name (i := 4) sc_is_box.nd rfl (Or.inl rfl)) (pgs_cons (pg_name (i := 5) sc_is_box.nd rfl (Or.inl rfl)) (pgs_cons (pg_name (i := 6) sc_is_box.nd rfl (Or.inl rfl)) (pgs_nil)))))))
      (pss_cons (ps_if (PW.pt (pw_or (pt_not (pt_val (pe_own O_is_between (hr.mono (by decide)) pass0 (pa_cons (pv 4) (pa_cons (pe_int) (pa_cons (pv 2) pa_nil)))))) (pw_or (pt_not (pt_val (pe_own O_is_between (hr.mono (by decide)) pass0 (pa_cons (pv 3) (pa_cons (pe_int) (pa_cons (pv 4) pa_nil)))))) (pw_or1 (pt_cmpR op_gt (pv 3) (pv 1) (nomark _)))))) (pss_one (ps_ret (pe_bl))) (pss_nil))
      (pss_one (ps_ret (pe_and (pe_own O_is_between (hr.mono (by decide)) pass0 (pa_cons (pv 6) (pa_cons (pe_int) (pa_cons (pe_gint T.g_MOST_KEEP) pa_nil)))) (pe_one (pe_own O_is_between (hr.mono (by decide)) pass0 (pa_cons (pv 5) (pa_cons (pe_int) (pa_cons (pv 6) pa_nil)))))))))), ?_⟩
    refine ⟨v, rfl, v, d, 4, rfl, hk, _, rfl, ?_⟩
    cases h1 : (isTupD d && decide ((lenD d : Int) = 4)) with
    | false =>
      rw [box_t h1] at q
      exact iteT q
    | true =>
      refine iteF ?_
      rw [Bool.and_eq_true, decide_eq_true_eq] at h1
      obtain ⟨p, xs, ds, rfl, hx, ha, rfl⟩ := dp_tup hk h1.1
      have hl : ds.length = 4 := by
        have z : ((ds.length : Nat) : Int) = 4 := h1.2
        omega
      match ds, hl, ha, q with
      | [da, db, dc, dd], _, ha, q =>
        cases ha with
        | @cons va _ _ _ ha1 ha =>
          cases ha with
          | @cons vb _ _ _ hb1 ha =>
            cases ha with
            | @cons vc _ _ _ hc1 ha =>
              cases ha with
              | @cons vd _ _ _ hd1 ha =>
                cases ha
                refine ⟨_, rfl, p, _, rfl, hx, rfl, ?_⟩
                refine ⟨_, _, rfl, _, _, rfl, _, _, rfl, _, _, rfl, rfl, ?_⟩
                refine ⟨vb, rfl, _, rfl, vb, db, 0, m, rfl, hb1, _, rfl, ?_⟩
                cases h2 : betD db 0 m with
                | false =>
                  rw [box_f h2] at q
                  exact iteT q
                | true =>
                  refine iteF ?_
                  obtain ⟨f, rfl, f0, fm⟩ := bet_yes h2
                  obtain rfl := dp_int hb1
                  refine ⟨va, rfl, _, rfl, va, da, 0, f, rfl, ha1, _, rfl, ?_⟩
                  cases h3 : betD da 0 f with
                  | false =>
                    rw [box_n h3] at q
                    exact iteT q
                  | true =>
                    refine iteF ?_
                    obtain ⟨n, rfl, n0, nf⟩ := bet_yes h3
                    obtain rfl := dp_int ha1
                    refine ⟨_, rfl, _, rfl, _, _, rfl, rfl, _, rfl, ?_⟩
                    by_cases h4 : n > l
                    · rw [decide_eq_true h4]
                      rw [box_l h4] at q
                      exact iteT q
                    · rw [decide_eq_false h4]
                      refine iteF ?_
                      refine ⟨vd, rfl, vd, dd, 1, 10000, rfl, hd1, _, rfl, ?_⟩
                      cases h5 : betD dd 1 10000 with
                      | false =>
                        rw [box_g h5] at q
                        exact iteF q
                      | true =>
                        obtain ⟨g, rfl, g1, g2⟩ := bet_yes h5
                        obtain rfl := dp_int hd1
                        rw [box_s ⟨n0, nf, fm, by omega, g2⟩] at q
                        exact iteT ⟨vc, rfl, _, rfl, vc, dc, 1, g, rfl, hc1, q⟩
/-! ### Way -/
def itemsD : PyData → Option (List PyData) | .list ds => some ds | .tuple ds => some ds | _ => none
/-- what is wrong first: a part's word or a box's place -/
def wayDue (b l m x : PyData) : Option (Str ⊕ Nat) :=
  if beginD b = false then some (.inl "begin") else if delaysD l m = false then some (.inl "delays") else
    if (isSeqD x && (decide ((0 : Int) ≤ (lenD x : Int)) && decide ((lenD x : Int) ≤ 3))) = false then some (.inl "boxes") else
    match l, m, itemsD x with
    | .int l, .int m, some ds => (ds.findIdx? fun d => !boxD d l m).map .inr
    | _, _, _ => none
def wF (b l m x : V) : List (Str × V) := [("begin", b), ("least", l), ("most", m), ("boxes", x)]
/-- a way at p: its begin, delays, and the data of its boxes -/
def WayAt (K : PySem.W.Frag) (A : Ad) (H : Hp) (p : Addr) (b l m : V) (ds : List PyData) : Prop := ∃ dx T xs, H p = some (.ins A.Way dx (wF b l m (.ref T))) ∧ SqT K H T xs ∧ DpAll K H xs ds
def spWayInit (K : PySem.W.Frag) (A : Ad) : Sp := fun vs H Q E => ∃ (p dx : Addr) (vb vl vm vx : V) (b l m x : PyData), vs = [.ref p, vb, vl, vm, vx] ∧ H p = some (.ins A.Way dx []) ∧ Dp K H vb b ∧ Dp K H vl l ∧ Dp K H vm m ∧ Dp K H vx x ∧
  (∀ s, wayDue b l m x = some (.inl s) → ∀ H', Ext H H' → ∀ e, H' e = none → E (.ref A.BadPart) (some e) (upd H' e (.xd [("part", .str s)]))) ∧
  (∀ i, wayDue b l m x = some (.inr i) → ∀ H', Ext H H' → ∀ e, H' e = none → E (.ref A.BadBox) (some e) (upd H' e (.xd [("index", .int (i : Nat))]))) ∧
  (wayDue b l m x = none → ∀ ds H', itemsD x = some ds → (∃ T xs, H' p = some (.ins A.Way dx (wF vb vl vm (.ref T))) ∧ SqT K H' T xs ∧ DpAll K H' xs ds) → (∀ x o, x ≠ p → H x = some o → H' x = some o) → Q .non H')
theorem find_at {ds : List PyData} {f : PyData → Bool} {i : Nat} {d : PyData} (h0 : ∀ (j : Nat) (d : PyData), j < i → ds[j]? = some d → f d = false) (hd : ds[i]? = some d) (h : f d = true) : ds.findIdx? f = some i := by
  induction ds generalizing i with
  | nil => cases hd
  | cons x xs ih =>
    rw [List.findIdx?_cons]
    cases i with
    | zero =>
      cases hd
      rw [h]
      rfl
    | succ i =>
      rw [h0 0 x (Nat.succ_pos _) rfl]
      have z := ih (i := i) (fun j d hj hd => h0 (j + 1) d (Nat.succ_lt_succ hj) hd) hd
      rw [z]
      rfl
theorem find_no {ds : List PyData} {f : PyData → Bool} (h0 : ∀ (j : Nat) (d : PyData), ds[j]? = some d → f d = false) : ds.findIdx? f = none := by
  rw [List.findIdx?_eq_none_iff]
  intro x hx
  obtain ⟨j, hj⟩ := List.mem_iff_getElem?.mp hx
  exact h0 j x hj
theorem delays_yes {d e : PyData} (h : delaysD d e = true) : ∃ l m, d = .int l ∧ e = .int m ∧ 1 ≤ l ∧ l ≤ m ∧ m ≤ 50 := by
  cases d <;> first | cases h | skip
  cases e <;> first | cases h | skip
  simp only [delaysD, Bool.and_eq_true, decide_eq_true_eq] at h
  exact ⟨_, _, rfl, rfl, h.1.1, h.1.2, h.2⟩
section
variable {H H' : Hp} {p a C dx : Addr} {fs : List (Str × V)} {xs : List V}
theorem sqL_mut (hp : H p = some (.ins C dx fs)) (e : ∀ x o, x ≠ p → H x = some o → H' x = some o) (h : SqL K H a xs) : SqL K H' a xs := by
  rcases h with (h | ⟨o, h⟩) | h
  · exact .inl (.inl (e a _ (fun z => by rw [z, hp] at h; cases h) h))
  · exact .inl (.inr ⟨o, e a _ (fun z => by rw [z, hp] at h; cases h) h⟩)
  · exact .inr h
theorem sqT_mut (hp : H p = some (.ins C dx fs)) (e : ∀ x o, x ≠ p → H x = some o → H' x = some o) (h : SqT K H a xs) : SqT K H' a xs := by
  rcases h with (h | ⟨o, h⟩) | h
  · exact .inl (.inl (e a _ (fun z => by rw [z, hp] at h; cases h) h))
  · exact .inl (.inr ⟨o, e a _ (fun z => by rw [z, hp] at h; cases h) h⟩)
  · exact .inr h
mutual
theorem dp_mut (hp : H p = some (.ins C dx fs)) (e : ∀ x o, x ≠ p → H x = some o → H' x = some o) : ∀ (d : PyData) (v : V), Dp K H v d → Dp K H' v d
  | .none, _, h => by cases h; exact .non
  | .bool _, _, h => by cases h; exact .bl _
  | .int _, _, h => by cases h; exact .int _
  | .str _, _, h => by cases h; exact .str _
  | .list ds, _, h => by
    cases h with
    | lst hs ha => exact .lst (sqL_mut hp e hs) (dps_mut hp e ds _ ha)
  | .tuple ds, _, h => by
    cases h with
    | tup hs ha => exact .tup (sqT_mut hp e hs) (dps_mut hp e ds _ ha)
  | .dict _, _, h => by cases h
theorem dps_mut (hp : H p = some (.ins C dx fs)) (e : ∀ x o, x ≠ p → H x = some o → H' x = some o) : ∀ (ds : List PyData) (vs : List V), DpAll K H vs ds → DpAll K H' vs ds
  | [], _, h => by cases h; exact .nil
  | d :: ds, _, h => by
    cases h with
    | cons h1 h2 => exact .cons (dp_mut hp e d _ h1) (dps_mut hp e ds _ h2)
end
end
theorem ok_wayInit {f : Addr} {fd : FuncData} (F : FunD K "__init__" "Way.__init__" (defArgs s_Way_init) (defBody s_Way_init) (defScope s_Way_init) [.ref A.T0] [] f fd) (T : Txt K mg A)
    (O_is_begin : Own P w K mg base CX0 "is_begin" 3 pm_is_begin (spBegin K)) (O_are_delays : Own P w K mg base CX0 "are_delays" 3 pm_are_delays (spDelays K)) (O_is_list_of : Own P w K mg base CX0 "is_list_of" 2 pm_is_list_of (spListOf K))
    (O_is_box : Own P w K mg base CX0 "is_box" 3 pm_is_box (spBoxOk K)) (X_BadPart : XCls P w K mg base "BadPart" "part" A.BadPart) (X_BadBox : XCls P w K mg base "BadBox" "index" A.BadBox) : FnOk P w K mg base (L2.CX P w) 5 f fd pm_Way_init (spWayInit K A) := by
  refine F.ok sc_Way_init (fun vs H Q E h => ?_) (fun cdv A' outer s H vs Q E hr h => ?_)
  · obtain ⟨_, _, _, _, _, _, _, _, _, _, rfl, _⟩ := h
    rfl
  · obtain ⟨p, dx, vb, vl, vm, vx, b, l, m, x, rfl, hp, hb, hl, hm, hx, hEp, hEb, hQ⟩ := h
    refine ⟨_, pss_cons (ps_if (pt_not (pt_val (pe_own O_is_begin (hr.mono (by decide)) pass0 (pa_cons (pv 1) pa_nil)))) (pss_one (ps_raise rfl (takes_of rfl rfl rfl rfl) (pmk_X X_BadPart (hr.mono (by decide)) (pe_str) rfl))) (pss_nil))
      (pss_cons (ps_if (pt_not (pt_val (pe_own O_are_delays (hr.mono (by decide)) pass0 (pa_cons (pv 2) (pa_cons (pv 3) pa_nil))))) (pss_one (ps_raise rfl (takes_of rfl rfl rfl rfl) (pmk_X X_BadPart (hr.mono (by decide)) (pe_str) rfl))) (pss_nil))
      (pss_cons (ps_if (pt_not (pt_val (pe_own O_is_list_of (hr.mono (by decide)) pass0 (pa_cons (pv 4) (pa_cons (pe_int) (pa_cons (pe_gint T.g_MOST_BOXES) pa_nil)))))) (pss_one (ps_raise rfl (takes_of rfl rfl rfl rfl) (pmk_X X_BadPart (hr.mono (by decide)) (pe_str) rfl))) (pss_nil))
      (pss_cons (ps_for (passes_of rfl) rfl (pi_enSq rfl T.n_enumerate (pa_cons (pv 4) pa_nil)) (pg_tup rfl (pgs_cons (pg_name (i := 5) sc_Way_init.nd rfl (Or.inl rfl)) (pgs_cons (pg_name (i := 6) sc_Way_init.nd rfl (Or.inl rfl)) (pgs_nil)))) (pss_one (ps_if (pt_not (pt_val (pe_own O_is_box (hr.mono (by decide)) pass0 (pa_cons (pv 6) (pa_cons (pv 2) (pa_cons (pv 3) pa_nil)))))) (pss_one (ps_raise rfl (takes_of rfl rfl rfl rfl) (pmk_X X_BadBox (hr.mono (by decide)) (pv 5) rfl))) (pss_nil))))
      (pss_cons (ps_fld (pv 0) (pv 1) rfl)
      (pss_cons (ps_fld (pv 0) (pv 2) rfl)
      (pss_cons (ps_fld (pv 0) (pv 3) rfl)
      (pss_one (ps_fld (pv 0) (pe_callTy call_tuple_of (by rfl) T.n_tuple (by decide +kernel) (pa_cons (pv 4) pa_nil)) rfl)))))))), ?_⟩
    refine ⟨vb, rfl, vb, b, rfl, hb, _, rfl, ?_⟩
    cases h1 : beginD b with
    | false => exact iteT (mkX_fin fun e he => hEp _ (by unfold wayDue; rw [if_pos h1]) _ Ext.rfl' e he)
    | true =>
      refine iteF ?_
      refine ⟨vl, rfl, vm, rfl, vl, vm, l, m, rfl, hl, hm, _, rfl, ?_⟩
      cases h2 : delaysD l m with
      | false => exact iteT (mkX_fin fun e he => hEp _ (by unfold wayDue; rw [h1, if_neg (by decide), if_pos h2]) _ Ext.rfl' e he)
      | true =>
        refine iteF ?_
        obtain ⟨li, mi, rfl, rfl, l1, lm, m50⟩ := delays_yes h2
        obtain rfl := dp_int hl
        obtain rfl := dp_int hm
        obtain ⟨tx, ix, k1, k2, k3, k4⟩ := listOf_key hx
        refine ⟨vx, rfl, vx, tx, isSeqD x, 0, 3, ix, rfl, k1, k2, k3, fun H1 e1 => ⟨_, rfl, ?_⟩⟩
        rw [k4]
        cases h3 : (isSeqD x && (decide ((0 : Int) ≤ (lenD x : Int)) && decide ((lenD x : Int) ≤ 3))) with
        | false => exact iteT (mkX_fin fun e he => hEp _ (by unfold wayDue; rw [h1, if_neg (by decide), h2, if_neg (by decide), if_pos h3]) _ e1 e he)
        | true =>
          refine iteF ?_
          have h3' := (Bool.and_eq_true_iff.mp h3).1
          obtain ⟨a, xs, ds, rfl, hsq, ha, hd⟩ := dp_seq (dp_ext e1 _ _ hx) h3'
          have hit : itemsD x = some ds := by rcases hd with rfl | rfl <;> rfl
          have due : wayDue b (.int li) (.int mi) x = (ds.findIdx? fun d => !boxD d li mi).map .inr := by
            unfold wayDue
            rw [h1, if_neg (by decide), h2, if_neg (by decide), h3, if_neg (by decide), hit]
          rw [due] at hEp hEb hQ
          have small : xs.length ≤ 3 := by
            have z := (Bool.and_eq_true_iff.mp (Bool.and_eq_true_iff.mp h3).2).2
            rw [dp_lenD ha hd, decide_eq_true_eq] at z
            omega
          refine ⟨_, rfl, a, rfl, ?_⟩
          refine for_enSq (xs := xs) hsq (fun i σ' H' => Ext H1 H' ∧ (∃ o5 o6, σ' = [some (.ref p), some vb, some (.int li), some (.int mi), some (.ref a), o5, o6]) ∧ ∀ j d, j < i → ds[j]? = some d → boxD d li mi = true)
            ⟨Ext.rfl', ⟨_, _, rfl⟩, fun j d hj _ => absurd hj (Nat.not_lt_zero _)⟩ (fun i σ' H' pv => pv.1) (fun i v σ' H' T' hi pv hT => ?_) (fun σ' H' pv => ?_)
          · obtain ⟨e2, ⟨o5, o6, rfl⟩, hok⟩ := pv
            refine ⟨T', _, rfl, SqT.of upd_same, rfl, ?_⟩
            have e3 := e2.upd' (o := .tup [.int (i : Nat), v]) hT
            obtain ⟨d, hdi, hdv⟩ := dps_get (dps_ext e3 _ _ ha) hi
            refine ⟨_, _, rfl, _, _, rfl, rfl, ?_⟩
            refine ⟨v, rfl, _, rfl, _, rfl, v, d, li, mi, rfl, hdv, _, rfl, ?_⟩
            cases h4 : boxD d li mi with
            | false =>
              refine iteT ⟨_, rfl, mkX_fin fun e he => hEb i ?_ _ (e1.trans e3) e he⟩
              rw [find_at (f := fun d => !boxD d li mi) (fun j d hj hd => by rw [hok j d hj hd]; rfl) hdi (by rw [h4]; rfl)]
              rfl
            | true =>
              refine iteF ⟨e3, ⟨_, _, rfl⟩, fun j d' hj hd' => ?_⟩
              rcases Nat.lt_succ_iff_lt_or_eq.mp hj with hj | rfl
              · exact hok j d' hj hd'
              · rw [hdi] at hd'
                cases hd'
                exact h4
          · obtain ⟨e2, ⟨o5, o6, rfl⟩, hok⟩ := pv
            have hnone : ((ds.findIdx? fun d => !boxD d li mi).map Sum.inr : Option (Str ⊕ Nat)) = none := by
              rw [find_no (f := fun d => !boxD d li mi) fun j d hd => ?_]
              · rfl
              · have hj : j < xs.length := by
                  rw [dps_len ha]
                  exact (List.getElem?_eq_some_iff.mp hd).1
                rw [hok j d hj hd]
                rfl
            have e12 := e1.trans e2
            have hp2 := e12 _ _ hp
            refine ⟨_, rfl, _, rfl, p, A.Way, dx, _, rfl, hp2, T.Way.cl, T.w_begin, (by show 0 < 1000; decide), ?_⟩
            refine ⟨_, rfl, _, rfl, p, A.Way, dx, _, rfl, upd_same, T.Way.cl, T.w_least, (by show 1 < 1000; decide), ?_⟩
            refine ⟨_, rfl, _, rfl, p, A.Way, dx, _, rfl, upd_same, T.Way.cl, T.w_most, (by show 2 < 1000; decide), ?_⟩
            have hm3 : ∀ o y, y ≠ p → H' y = some o → (upd (upd (upd H' p (.ins A.Way dx (putF "begin" vb []))) p (.ins A.Way dx (putF "least" (.int li) (putF "begin" vb [])))) p (.ins A.Way dx (putF "most" (.int mi) (putF "least" (.int li) (putF "begin" vb []))))) y = some o := fun o y hy h => by
              rw [upd_ne hy, upd_ne hy, upd_ne hy]
              exact h
            have hp3 : (upd (upd (upd H' p (.ins A.Way dx (putF "begin" vb []))) p (.ins A.Way dx (putF "least" (.int li) (putF "begin" vb [])))) p (.ins A.Way dx (putF "most" (.int mi) (putF "least" (.int li) (putF "begin" vb []))))) p = some (.ins A.Way dx (putF "most" (.int mi) (putF "least" (.int li) (putF "begin" vb [])))) := upd_same
            have hda : DpAll K H' xs ds := dps_ext e2 _ _ ha
            generalize upd (upd (upd H' p (.ins A.Way dx (putF "begin" vb []))) p (.ins A.Way dx (putF "least" (.int li) (putF "begin" vb [])))) p (.ins A.Way dx (putF "most" (.int mi) (putF "least" (.int li) (putF "begin" vb [])))) = H3 at hm3 hp3 ⊢
            refine ⟨_, rfl, a, xs, rfl, ?_⟩
            rcases hsq with hsq | hsq
            · refine .inl ⟨sqL_mut hp2 (fun y o => hm3 o y) (hsq.ext e2), fun t ht => ⟨_, rfl, p, A.Way, dx, _, rfl, Ext.upd ht _ _ hp3, T.Way.cl, T.w_boxes, (by show 3 < 1000; decide), ?_⟩⟩
              have ntp : t ≠ p := fun z => by rw [z, hp3] at ht; cases ht
              refine hQ hnone ds _ hit ⟨t, xs, upd_same, SqT.of (by rw [upd_ne ntp]; exact upd_same), ?_⟩ fun y o hy h => ?_
              · exact dps_mut hp2 (fun y o hy h => by rw [upd_ne hy]; exact Ext.upd ht _ _ (hm3 o y hy h)) _ _ hda
              · rw [upd_ne hy]
                exact Ext.upd ht _ _ (hm3 o y hy (e12 _ _ h))
            · refine .inr ⟨sqT_mut hp2 (fun y o => hm3 o y) (hsq.ext e2), _, rfl, p, A.Way, dx, _, rfl, hp3, T.Way.cl, T.w_boxes, (by show 3 < 1000; decide), ?_⟩
              refine hQ hnone ds _ hit ⟨a, xs, upd_same, sqT_mut hp2 (fun y o hy h => by rw [upd_ne hy]; exact hm3 o y hy h) (hsq.ext e2), ?_⟩ fun y o hy h => ?_
              · exact dps_mut hp2 (fun y o hy h => by rw [upd_ne hy]; exact hm3 o y hy h) _ _ hda
              · rw [upd_ne hy]
                exact hm3 o y hy (e12 _ _ h)
end
end K29

set_option Elab.async false
set_option maxRecDepth 100000
set_option maxHeartbeats 4000000
namespace K29
open PySem PySem.Spec PyProof.Rows L2
abbrev Bx := Int × Int × Int × Int
def bxD (q : Bx) : PyData := .tuple [.int q.1, .int q.2.1, .int q.2.2.1, .int q.2.2.2]
def bxOk (q : Bx) (l m : Int) : Prop := 0 ≤ q.1 ∧ q.1 ≤ q.2.1 ∧ q.2.1 ≤ m ∧ q.1 ≤ l ∧ 1 ≤ q.2.2.1 ∧ q.2.2.1 ≤ q.2.2.2 ∧ q.2.2.2 ≤ 10000
theorem box_yes {d : PyData} {l m : Int} (h : boxD d l m = true) : ∃ q, d = bxD q ∧ bxOk q l m := by
  unfold boxD at h
  split at h
  · rename_i n f s g
    rw [decide_eq_true_eq] at h
    exact ⟨(n, f, s, g), rfl, h⟩
  · cases h
theorem box_ok {q : Bx} {l m : Int} (h : bxOk q l m) : boxD (bxD q) l m = true := decide_eq_true h
theorem boxes_yes {l m : Int} : ∀ {ds : List PyData}, (∀ d ∈ ds, boxD d l m = true) → ∃ bs : List Bx, ds = bs.map bxD ∧ ∀ q ∈ bs, bxOk q l m
  | [], _ => ⟨[], rfl, fun _ h => nomatch h⟩
  | d :: ds, h => by
    obtain ⟨q, rfl, hq⟩ := box_yes (h d List.mem_cons_self)
    obtain ⟨bs, rfl, hb⟩ := boxes_yes (ds := ds) fun d hd => h d (List.mem_cons_of_mem _ hd)
    refine ⟨q :: bs, rfl, fun r hr => ?_⟩
    rcases List.mem_cons.mp hr with rfl | hr
    · exact hq
    · exact hb r hr
def bD : Option Int → PyData | some n => .int n | none => .none
def bV : Option Int → V | some n => .int n | none => .non
def bOk (b : Option Int) : Prop := ∀ n, b = some n → 0 ≤ n ∧ n ≤ 1000
theorem begin_yes {d : PyData} (h : beginD d = true) : ∃ b, d = bD b ∧ bOk b := by
  cases d with
  | none => exact ⟨none, rfl, fun n h => nomatch h⟩
  | int n =>
    have h' : betD (.int n) 0 1000 = true := h
    obtain ⟨m, e, h1, h2⟩ := bet_yes h'
    cases e
    exact ⟨some n, rfl, fun k e => by cases e; exact ⟨h1, h2⟩⟩
  | _ => cases h
theorem begin_ok {b : Option Int} (h : bOk b) : beginD (bD b) = true := by
  cases b with
  | none => rfl
  | some n =>
    obtain ⟨h1, h2⟩ := h n rfl
    show betD (.int n) 0 1000 = true
    rw [bet_int, decide_eq_true h1, decide_eq_true h2]
    rfl
theorem due_begin {b l m x : PyData} (h : beginD b = false) : wayDue b l m x = some (.inl "begin") := by
  unfold wayDue
  rw [if_pos h]
theorem due_none {b l m x : PyData} (h : wayDue b l m x = none) : ∃ (bo : Option Int) (li mi : Int) (bs : List Bx), b = bD bo ∧ bOk bo ∧ l = .int li ∧ m = .int mi ∧ (1 ≤ li ∧ li ≤ mi ∧ mi ≤ 50) ∧ itemsD x = some (bs.map bxD) ∧ bs.length ≤ 3 ∧ ∀ q ∈ bs, bxOk q li mi := by
  unfold wayDue at h
  cases h1 : beginD b with
  | false => rw [h1, if_pos rfl] at h; cases h
  | true =>
    rw [h1, if_neg (by decide)] at h
    cases h2 : delaysD l m with
    | false => rw [h2, if_pos rfl] at h; cases h
    | true =>
      rw [h2, if_neg (by decide)] at h
      obtain ⟨li, mi, rfl, rfl, d1, d2, d3⟩ := delays_yes h2
      cases h3 : (isSeqD x && (decide ((0 : Int) ≤ (lenD x : Int)) && decide ((lenD x : Int) ≤ 3))) with
      | false => rw [h3, if_pos rfl] at h; cases h
      | true =>
        rw [h3, if_neg (by decide)] at h
        obtain ⟨bo, rfl, hb⟩ := begin_yes h1
        have h4 := (Bool.and_eq_true_iff.mp (Bool.and_eq_true_iff.mp h3).2).2
        rw [decide_eq_true_eq] at h4
        have fin : ∀ ds : List PyData, itemsD x = some ds → lenD x = ds.length → (ds.findIdx? fun d => !boxD d li mi) = none → ∃ (bo' : Option Int) (li' mi' : Int) (bs : List Bx), bD bo = bD bo' ∧ bOk bo' ∧ PyData.int li = .int li' ∧ PyData.int mi = .int mi' ∧ (1 ≤ li' ∧ li' ≤ mi' ∧ mi' ≤ 50) ∧ itemsD x = some (bs.map bxD) ∧ bs.length ≤ 3 ∧ ∀ q ∈ bs, bxOk q li' mi' := by
          intro ds hi hl hf
          rw [List.findIdx?_eq_none_iff] at hf
          obtain ⟨bs, rfl, hbs⟩ := boxes_yes (ds := ds) (l := li) (m := mi) fun d hd => by
            have z := hf d hd
            cases hz : boxD d li mi with
            | true => rfl
            | false => rw [hz] at z; cases z
          refine ⟨bo, li, mi, bs, rfl, hb, rfl, rfl, ⟨d1, d2, d3⟩, hi, ?_, hbs⟩
          rw [hl, List.length_map] at h4
          omega
        cases x with
        | list ds =>
          refine fin ds rfl rfl ?_
          have h' : (ds.findIdx? fun d => !boxD d li mi).map (Sum.inr (α := Str)) = none := h
          rwa [Option.map_eq_none_iff] at h'
        | tuple ds =>
          refine fin ds rfl rfl ?_
          have h' : (ds.findIdx? fun d => !boxD d li mi).map (Sum.inr (α := Str)) = none := h
          rwa [Option.map_eq_none_iff] at h'
        | _ => cases h3
theorem due_ok {bo : Option Int} {li mi : Int} {bs : List Bx} {x : PyData} (hb : bOk bo) (hd : 1 ≤ li ∧ li ≤ mi ∧ mi ≤ 50) (hx : x = .list (bs.map bxD) ∨ x = .tuple (bs.map bxD)) (hl : bs.length ≤ 3) (hbs : ∀ q ∈ bs, bxOk q li mi) : wayDue (bD bo) (.int li) (.int mi) x = none := by
  have h2 : delaysD (.int li) (.int mi) = true := by
    simp only [delaysD]
    rw [decide_eq_true hd.1, decide_eq_true hd.2.1, decide_eq_true hd.2.2]
    rfl
  have hf : ((bs.map bxD).findIdx? fun d => !boxD d li mi) = none := by
    rw [List.findIdx?_eq_none_iff]
    intro d hd
    obtain ⟨q, hq, rfl⟩ := List.mem_map.mp hd
    rw [box_ok (hbs q hq)]
    rfl
  have h4 : decide (((bs.map bxD).length : Int) ≤ 3) = true := by
    rw [List.length_map]
    exact decide_eq_true (by omega)
  have h5 : decide ((0 : Int) ≤ ((bs.map bxD).length : Int)) = true := decide_eq_true (by omega)
  unfold wayDue
  rw [begin_ok hb, if_neg (by decide), h2, if_neg (by decide)]
  rcases hx with rfl | rfl
  · have h3 : (isSeqD (.list (bs.map bxD)) && (decide ((0 : Int) ≤ (lenD (.list (bs.map bxD)) : Int)) && decide ((lenD (.list (bs.map bxD)) : Int) ≤ 3))) = true := by
      show (true && (decide ((0 : Int) ≤ ((bs.map bxD).length : Int)) && decide (((bs.map bxD).length : Int) ≤ 3))) = true
      rw [h4, h5]
      rfl
    rw [h3, if_neg (by decide)]
    show ((bs.map bxD).findIdx? fun d => !boxD d li mi).map (Sum.inr (α := Str)) = none
    rw [hf]
    rfl
  · have h3 : (isSeqD (.tuple (bs.map bxD)) && (decide ((0 : Int) ≤ (lenD (.tuple (bs.map bxD)) : Int)) && decide ((lenD (.tuple (bs.map bxD)) : Int) ≤ 3))) = true := by
      show (true && (decide ((0 : Int) ≤ ((bs.map bxD).length : Int)) && decide (((bs.map bxD).length : Int) ≤ 3))) = true
      rw [h4, h5]
      rfl
    rw [h3, if_neg (by decide)]
    show ((bs.map bxD).findIdx? fun d => !boxD d li mi).map (Sum.inr (α := Str)) = none
    rw [hf]
    rfl
theorem eqv_bx (q r : Bx) : PyData.eqv (bxD q) (bxD r) = decide (q = r) := by
  obtain ⟨a, b, c, d⟩ := q
  obtain ⟨a', b', c', d'⟩ := r
  have h := eqv_ints [a, b, c, d] [a', b', c', d']
  show PyData.eqvAll [.int a, .int b, .int c, .int d] [.int a', .int b', .int c', .int d'] = _
  rw [show PyData.eqvAll [.int a, .int b, .int c, .int d] [.int a', .int b', .int c', .int d'] = decide ([a, b, c, d] = [a', b', c', d']) from h]
  simp
theorem eqv_bxs : ∀ (bs cs : List Bx), PyData.eqvAll (bs.map bxD) (cs.map bxD) = decide (bs = cs)
  | [], [] => rfl
  | [], _ :: _ => rfl
  | _ :: _, [] => rfl
  | b :: bs, c :: cs => by
    show (PyData.eqv (bxD b) (bxD c) && PyData.eqvAll (bs.map bxD) (cs.map bxD)) = _
    rw [eqv_bx, eqv_bxs bs cs, Bool.eq_iff_iff]
    simp
theorem lay_bxs : ∀ bs : List Bx, PyData.canLayAll0 (bs.map bxD) = true ∧ PyData.depthAll (bs.map bxD) ≤ 1
  | [] => ⟨rfl, Nat.zero_le _⟩
  | b :: bs => by
    obtain ⟨h1, h2⟩ := lay_bxs bs
    constructor
    · show ((bxD b).canLay0 && PyData.canLayAll0 (bs.map bxD)) = true
      rw [h1]
      rfl
    · show max (bxD b).depth (PyData.depthAll (bs.map bxD)) ≤ 1
      exact Nat.max_le.mpr ⟨Nat.le_refl 1, h2⟩
theorem shp_bxs (bs : List Bx) : SeqAt.shaped (.tuple (bs.map bxD)) = true := by
  obtain ⟨h1, h2⟩ := lay_bxs bs
  show (PyData.canLayAll0 (bs.map bxD) && decide (PyData.depthAll (bs.map bxD) + 1 ≤ 64)) = true
  rw [h1, decide_eq_true (by omega)]
  rfl
section
variable {P : Program} {w : World} {K : PySem.W.Frag} {mg : Str → Option Value} {base : Heap} {A : Ad}
theorem bV_dp {H : Hp} (b : Option Int) : Dp K H (bV b) (bD b) := by cases b <;> first | exact .non | exact .int _
theorem bV_of {H : Hp} {v : V} {b : Option Int} (h : Dp K H v (bD b)) : v = bV b := by
  cases b with
  | none => cases h; rfl
  | some n => cases h; rfl
theorem bV_eq (b c : Option Int) : decide (bV b = bV c) = decide (b = c) := by cases b <;> cases c <;> simp [bV]
theorem bV_sc (b c : Option Int) : scal (bV b) (bV c) = true := by cases b <;> cases c <;> rfl
def MyWay (K : PySem.W.Frag) (A : Ad) (H : Hp) (p : Addr) (b : Option Int) (l m : Int) (bs : List Bx) : Prop := WayAt K A H p (bV b) (.int l) (.int m) (bs.map bxD)
theorem MyWay.ext {H H' : Hp} {p : Addr} {b : Option Int} {l m : Int} {bs : List Bx} (h : MyWay K A H p b l m bs) (e : Ext H H') : MyWay K A H' p b l m bs := by
  obtain ⟨dx, T', xs, h1, h2, h3⟩ := h
  exact ⟨dx, T', xs, e _ _ h1, h2.ext e, dps_ext e _ _ h3⟩
def spWindow (K : PySem.W.Frag) (A : Ad) : Sp := fun vs H Q _ => ∃ p b l m bs, vs = [.ref p] ∧ MyWay K A H p b l m bs ∧ (b = none → Q .non H) ∧ ∀ n, b = some n → ∀ t H', Ext H H' → H' t = some (.tup [.int (n + 2 * l), .int (n + 2 * m)]) → Q (.ref t) H'
theorem ok_window {f : Addr} {fd : FuncData} (F : Fun K "window" "Way.window" s_Way_window f fd) (T : Txt K mg A) : FnOk P w K mg base CX0 1 f fd pm_Way_window (spWindow K A) := by
  refine F.ok sc_Way_window (fun vs H Q E h => ?_) (fun cdv A' outer s H vs Q E hr h => ?_)
  · obtain ⟨_, _, _, _, _, rfl, _⟩ := h
    rfl
  · obtain ⟨p, b, l, m, bs, rfl, ⟨dx, T', xs, hp, hT, ha⟩, q0, q1⟩ := h
    refine ⟨_, pss_cons (ps_if (pt_cmpR op_isN (pe_fld (pv 0) rfl) (pe_non) (nomark _)) (pss_one (ps_ret (pe_non))) (pss_nil))
      (pss_one (ps_ret (pe_tup (pa_cons (pe_op op_add (pe_fld (pv 0) rfl) (pe_op op_mul (pe_int) (pe_fld (pv 0) rfl))) (pa_cons (pe_op op_add (pe_fld (pv 0) rfl) (pe_op op_mul (pe_int) (pe_fld (pv 0) rfl))) pa_nil))))), ?_⟩
    refine ⟨_, rfl, p, A.Way, dx, _, _, rfl, hp, T.Way.cl, T.w_begin, rfl, rfl, _, rfl, ?_⟩
    cases b with
    | none => exact iteT (q0 rfl)
    | some n =>
      refine iteF ?_
      refine ⟨_, rfl, p, A.Way, dx, _, _, rfl, hp, T.Way.cl, T.w_begin, rfl, _, rfl, p, A.Way, dx, _, _, rfl, hp, T.Way.cl, T.w_least, rfl, _, _, rfl, rfl, .inl ⟨by decide, by decide⟩, _, _, rfl, rfl, ?_⟩
      refine ⟨_, rfl, p, A.Way, dx, _, _, rfl, hp, T.Way.cl, T.w_begin, rfl, _, rfl, p, A.Way, dx, _, _, rfl, hp, T.Way.cl, T.w_most, rfl, _, _, rfl, rfl, .inl ⟨by decide, by decide⟩, _, _, rfl, rfl, ?_⟩
      exact ⟨by show 2 ≤ sizeLine; decide, fun t ht => q1 n rfl t _ (Ext.upd ht) upd_same⟩
def spWayEq (K : PySem.W.Frag) (A : Ad) : Sp := fun vs H Q _ => ∃ p b l m bs v, vs = [.ref p, v] ∧ MyWay K A H p b l m bs ∧
  ((∃ q b' l' m' bs', v = .ref q ∧ MyWay K A H q b' l' m' bs' ∧ Q (.bl (decide (b = b' ∧ l = l' ∧ m = m' ∧ bs = bs'))) H) ∨ ∃ d, Dp K H v d ∧ Q (.bl false) H)
theorem ok_wayEq {f : Addr} {fd : FuncData} (F : Fun K "__eq__" "Way.__eq__" s_Way_eq f fd) (T : Txt K mg A) : FnOk P w K mg base CX0 1 f fd pm_Way_eq (spWayEq K A) := by
  refine F.ok sc_Way_eq (fun vs H Q E h => ?_) (fun cdv A' outer s H vs Q E hr h => ?_)
  · obtain ⟨_, _, _, _, _, _, rfl, _⟩ := h
    rfl
  · obtain ⟨p, b, l, m, bs, v, rfl, ⟨dx, T', xs, hp, hT, ha⟩, h⟩ := h
    refine ⟨_, pss_cons (ps_if (PW.pt (pw_or (pt_not (pt_val (pe_callB call_isi (by rfl) T.n_isinstance (by decide +kernel) (pa_cons (pv 1) (pa_cons (pe_gcls T.Way.gC) pa_nil))))) (pw_or1 (pt_cmpR op_ne (pe_fld (pv 0) rfl) (pe_fld (pv 1) rfl) (nomark _))))) (pss_one (ps_ret (pe_bl))) (pss_nil))
      (pss_one (ps_ret (pe_and (pe_cmpR op_eq (pe_fld (pv 0) rfl) (pe_fld (pv 1) rfl) (nomark _)) (pe_and (pe_cmpR op_eq (pe_fld (pv 0) rfl) (pe_fld (pv 1) rfl) (nomark _)) (pe_one (pe_cmpR (op_eqD hr.units) (pe_fld (pv 0) rfl) (pe_fld (pv 1) rfl) (nomark _))))))), ?_⟩
    rcases h with ⟨q, b', l', m', bs', rfl, ⟨dy, T2, ys, hq, hT2, ha2⟩, k⟩ | ⟨d, hd, h⟩
    · refine ⟨_, rfl, _, .ref A.Way, .ref A.Way, .ref A.Way, true, rfl, .own _, T.Way.tyOf hq, T.Way.me, _, rfl, ?_⟩
      refine iteF ?_
      refine ⟨_, rfl, p, A.Way, dx, _, _, rfl, hp, T.Way.cl, T.w_begin, rfl, _, rfl, q, A.Way, dy, _, _, rfl, hq, T.Way.cl, T.w_begin, rfl, bV_sc _ _, _, rfl, ?_⟩
      rw [bV_eq]
      by_cases h1 : b = b'
      · rw [decide_eq_true h1]
        refine iteF ?_
        refine ⟨_, rfl, p, A.Way, dx, _, _, rfl, hp, T.Way.cl, T.w_least, rfl, _, rfl, q, A.Way, dy, _, _, rfl, hq, T.Way.cl, T.w_least, rfl, rfl, _, rfl, ?_⟩
        rw [dvi]
        by_cases h2 : l = l'
        · rw [decide_eq_true h2]
          refine iteT ?_
          refine ⟨_, rfl, p, A.Way, dx, _, _, rfl, hp, T.Way.cl, T.w_most, rfl, _, rfl, q, A.Way, dy, _, _, rfl, hq, T.Way.cl, T.w_most, rfl, rfl, _, rfl, ?_⟩
          rw [dvi]
          by_cases h3 : m = m'
          · rw [decide_eq_true h3]
            refine iteT ?_
            refine ⟨_, rfl, p, A.Way, dx, _, _, rfl, hp, T.Way.cl, T.w_boxes, rfl, _, rfl, q, A.Way, dy, _, _, rfl, hq, T.Way.cl, T.w_boxes, rfl, ?_⟩
            refine ⟨_, _, .tup hT ha, .tup hT2 ha2, shp_bxs _, shp_bxs _, ?_⟩
            show Q (.bl (PyData.eqvAll (bs.map bxD) (bs'.map bxD))) H
            rw [eqv_bxs]
            have e : decide (b = b' ∧ l = l' ∧ m = m' ∧ bs = bs') = decide (bs = bs') := by simp [h1, h2, h3]
            rw [e] at k
            exact k
          · rw [decide_eq_false h3]
            rw [decide_eq_false (by simp [h3])] at k
            exact iteF k
        · rw [decide_eq_false h2]
          rw [decide_eq_false (by simp [h2])] at k
          exact iteF k
      · rw [decide_eq_false h1]
        rw [decide_eq_false (by simp [h1])] at k
        exact iteT k
    · refine ⟨_, rfl, _, .ref A.Way, .type (tnD d), .ref A.Way, false, rfl, .own _, dp_ty hd, T.Way.kitB (sub_ty_ref kd_find) rfl, _, rfl, ?_⟩
      exact iteT h
end
end K29

set_option Elab.async false
set_option maxRecDepth 100000
set_option maxHeartbeats 4000000
namespace K29
open PySem PySem.Spec PyProof.Rows L2
def ErrP (A : Ad) (H : Hp) (E : XK) (s : Str) : Prop := ∀ H', Ext H H' → ∀ e, H' e = none → E (.ref A.BadPart) (some e) (upd H' e (.xd [("part", .str s)]))
theorem ErrP.to {A : Ad} {H H' : Hp} {E : XK} {s : Str} (h : ErrP A H E s) (e : Ext H H') : ErrP A H' E s := fun H2 e2 => h H2 (e.trans e2)
/-- what is wrong first -/
def lullDue2 (dl : Int) (t l : PyData) : Option Str := if betD t (2 * dl) 200 = false then some "turn" else if betD l 1 3 = false then some "losses" else none
def quietDue (q : PyData) : Option Str := if betD q 1 500 = false then some "quiet" else none
def lullDue : PyData → PyData → PyData → PyData → Option Str
  | .int dl, t, l, q => if betD (.int dl) 1 50 = false then some "delay" else (lullDue2 dl t l).or (quietDue q)
  | _, _, _, _ => some "delay"
theorem lullDue_no {d t l q : PyData} (h : betD d 1 50 = false) : lullDue d t l q = some ("delay" : Str) := by
  cases d <;> first | rfl | skip
  exact if_pos h
theorem lullDue_yes {dl : Int} {t l q : PyData} (h : betD (.int dl) 1 50 = true) : lullDue (.int dl) t l q = (lullDue2 dl t l).or (quietDue q) := if_neg (by rw [h]; decide)
theorem lullDue2_none {dl : Int} {t l : PyData} (h : lullDue2 dl t l = none) : ∃ ti li, t = .int ti ∧ l = .int li ∧ 2 * dl ≤ ti ∧ ti ≤ 200 ∧ 1 ≤ li ∧ li ≤ 3 := by
  unfold lullDue2 at h
  cases h1 : betD t (2 * dl) 200 with
  | false => rw [h1, if_pos rfl] at h; cases h
  | true =>
    rw [h1, if_neg (by decide)] at h
    cases h2 : betD l 1 3 with
    | false => rw [h2, if_pos rfl] at h; cases h
    | true =>
      obtain ⟨ti, rfl, a, b⟩ := bet_yes h1
      obtain ⟨li, rfl, c, e⟩ := bet_yes h2
      exact ⟨ti, li, rfl, rfl, a, b, c, e⟩
theorem quietDue_none {q : PyData} (h : quietDue q = none) : ∃ qi, q = .int qi ∧ 1 ≤ qi ∧ qi ≤ 500 := by
  unfold quietDue at h
  cases h1 : betD q 1 500 with
  | false => rw [h1, if_pos rfl] at h; cases h
  | true => exact bet_yes h1
section
variable {P : Program} {w : World} {K : PySem.W.Frag} {mg : Str → Option Value} {base : Heap} {A : Ad}
def spCheckLull (K : PySem.W.Frag) (A : Ad) : Sp := fun vs H Q E => ∃ (dl : Int) (vt vl : V) (t l : PyData), vs = [.int dl, vt, vl] ∧ Dp K H vt t ∧ Dp K H vl l ∧ (∀ s, lullDue2 dl t l = some s → ErrP A H E s) ∧ (lullDue2 dl t l = none → Q .non H)
theorem ok_checkLull {f : Addr} {fd : FuncData} (F : Fun K "check_lull" "check_lull" s_check_lull f fd) (T : Txt K mg A) (O_is_between : Own P w K mg base CX0 "is_between" 2 pm_is_between (spBetween K)) (X_BadPart : XCls P w K mg base "BadPart" "part" A.BadPart) : FnOk P w K mg base (L2.CX P w) 4 f fd pm_check_lull (spCheckLull K A) := by
  refine F.okX sc_check_lull (fun vs H Q E h => ?_) (fun cdv A' outer s H vs Q E hr h => ?_)
  · obtain ⟨_, _, _, _, _, rfl, _⟩ := h
    rfl
  · obtain ⟨dl, vt, vl, t, l, rfl, ht, hl, hE, hQ⟩ := h
    refine ⟨_, pss_cons (ps_if (pt_not (pt_val (pe_own O_is_between (hr.mono (by decide)) pass0 (pa_cons (pv 1) (pa_cons (pe_op op_mul (pe_int) (pv 0)) (pa_cons (pe_gint T.g_MOST_TURN) pa_nil)))))) (pss_one (ps_raise rfl (takes_of rfl rfl rfl rfl) (pmk_X X_BadPart (hr.mono (by decide)) (pe_str) rfl))) (pss_nil))
      (pss_one (ps_if (pt_not (pt_val (pe_own O_is_between (hr.mono (by decide)) pass0 (pa_cons (pv 2) (pa_cons (pe_int) (pa_cons (pe_gint T.g_MOST_LOST) pa_nil)))))) (pss_one (ps_raise rfl (takes_of rfl rfl rfl rfl) (pmk_X X_BadPart (hr.mono (by decide)) (pe_str) rfl))) (pss_nil))), ?_⟩
    refine ⟨vt, rfl, _, rfl, _, _, rfl, rfl, .inl ⟨by decide, by decide⟩, vt, t, 2 * dl, 200, rfl, ht, _, rfl, ?_⟩
    cases h1 : betD t (2 * dl) 200 with
    | false => exact iteT (mkX_fin fun e he => hE _ (by unfold lullDue2; rw [if_pos h1]) _ Ext.rfl' e he)
    | true =>
      refine iteF ⟨vl, rfl, vl, l, 1, 3, rfl, hl, _, rfl, ?_⟩
      cases h2 : betD l 1 3 with
      | false => exact iteT (mkX_fin fun e he => hE _ (by unfold lullDue2; rw [h1, if_neg (by decide), if_pos h2]) _ Ext.rfl' e he)
      | true => exact iteF (hQ (by unfold lullDue2; rw [h1, if_neg (by decide), h2, if_neg (by decide)]))
def spCheckQuiet (K : PySem.W.Frag) (A : Ad) : Sp := fun vs H Q E => ∃ (vq : V) (q : PyData), vs = [vq] ∧ Dp K H vq q ∧ (∀ s, quietDue q = some s → ErrP A H E s) ∧ (quietDue q = none → Q .non H)
theorem ok_checkQuiet {f : Addr} {fd : FuncData} (F : Fun K "check_quiet" "check_quiet" s_check_quiet f fd) (T : Txt K mg A) (O_is_between : Own P w K mg base CX0 "is_between" 2 pm_is_between (spBetween K)) (X_BadPart : XCls P w K mg base "BadPart" "part" A.BadPart) : FnOk P w K mg base (L2.CX P w) 4 f fd pm_check_quiet (spCheckQuiet K A) := by
  refine F.okX sc_check_quiet (fun vs H Q E h => ?_) (fun cdv A' outer s H vs Q E hr h => ?_)
  · obtain ⟨_, _, rfl, _⟩ := h
    rfl
  · obtain ⟨vq, q, rfl, hq, hE, hQ⟩ := h
    refine ⟨_, pss_one (ps_if (pt_not (pt_val (pe_own O_is_between (hr.mono (by decide)) pass0 (pa_cons (pv 0) (pa_cons (pe_int) (pa_cons (pe_gint T.g_MOST_QUIET) pa_nil)))))) (pss_one (ps_raise rfl (takes_of rfl rfl rfl rfl) (pmk_X X_BadPart (hr.mono (by decide)) (pe_str) rfl))) (pss_nil)), ?_⟩
    refine ⟨vq, rfl, vq, q, 1, 500, rfl, hq, _, rfl, ?_⟩
    cases h1 : betD q 1 500 with
    | false => exact iteT (mkX_fin fun e he => hE _ (by unfold quietDue; rw [if_pos h1]) _ Ext.rfl' e he)
    | true => exact iteF (hQ (by unfold quietDue; rw [h1, if_neg (by decide)]))
def lF (d t l z : Int) : List (Str × V) := [("delay", .int d), ("turn", .int t), ("losses", .int l), ("quiet", .int z)]
def LullAt (A : Ad) (H : Hp) (p : Addr) (d t l z : Int) : Prop := ∃ dx, H p = some (.ins A.Lull dx (lF d t l z))
theorem LullAt.ext {H H' : Hp} {p : Addr} {d t l z : Int} (h : LullAt A H p d t l z) (e : Ext H H') : LullAt A H' p d t l z := by
  obtain ⟨dx, h⟩ := h
  exact ⟨dx, e _ _ h⟩
def spLullInit (K : PySem.W.Frag) (A : Ad) : Sp := fun vs H Q E => ∃ (p dx : Addr) (vd vt vl vq : V) (d t l q : PyData), vs = [.ref p, vd, vt, vl, vq] ∧ H p = some (.ins A.Lull dx []) ∧ Dp K H vd d ∧ Dp K H vt t ∧ Dp K H vl l ∧ Dp K H vq q ∧ (∀ s, lullDue d t l q = some s → ErrP A H E s) ∧
  (∀ di ti li qi : Int, d = .int di → t = .int ti → l = .int li → q = .int qi → lullDue d t l q = none → ∀ H', LullAt A H' p di ti li qi → (∀ x u, x ≠ p → H x = some u → H' x = some u) → Q .non H')
theorem ok_lullInit {f : Addr} {fd : FuncData} (F : Fun K "__init__" "Lull.__init__" s_Lull_init f fd) (T : Txt K mg A) (O_is_between : Own P w K mg base CX0 "is_between" 2 pm_is_between (spBetween K))
    (O_check_lull : Own P w K mg base (L2.CX P w) "check_lull" 4 pm_check_lull (spCheckLull K A)) (O_check_quiet : Own P w K mg base (L2.CX P w) "check_quiet" 4 pm_check_quiet (spCheckQuiet K A)) (X_BadPart : XCls P w K mg base "BadPart" "part" A.BadPart) : FnOk P w K mg base (L2.CX P w) 5 f fd pm_Lull_init (spLullInit K A) := by
  refine F.okX sc_Lull_init (fun vs H Q E h => ?_) (fun cdv A' outer s H vs Q E hr h => ?_)
  · obtain ⟨_, _, _, _, _, _, _, _, _, _, rfl, _⟩ := h
    rfl
  · obtain ⟨p, dx, vd, vt, vl, vq, d, t, l, q, rfl, hp, hd, ht, hl, hq, hE, hQ⟩ := h
    refine ⟨_, pss_cons (ps_if (pt_not (pt_val (pe_own O_is_between (hr.mono (by decide)) pass0 (pa_cons (pv 1) (pa_cons (pe_int) (pa_cons (pe_gint T.g_MOST_DELAY) pa_nil)))))) (pss_one (ps_raise rfl (takes_of rfl rfl rfl rfl) (pmk_X X_BadPart (hr.mono (by decide)) (pe_str) rfl))) (pss_nil))
      (pss_cons (ps_expr (pe_ownS O_check_lull (hr.mono (by decide)) (takes_of rfl rfl rfl rfl) (pa_cons (pv 1) (pa_cons (pv 2) (pa_cons (pv 3) pa_nil)))))
      (pss_cons (ps_expr (pe_ownS O_check_quiet (hr.mono (by decide)) (takes_of rfl rfl rfl rfl) (pa_cons (pv 4) pa_nil)))
      (pss_cons (ps_fld (pv 0) (pv 1) rfl)
      (pss_cons (ps_fld (pv 0) (pv 2) rfl)
      (pss_cons (ps_fld (pv 0) (pv 3) rfl)
      (pss_one (ps_fld (pv 0) (pv 4) rfl))))))), ?_⟩
    refine ⟨vd, rfl, vd, d, 1, 50, rfl, hd, _, rfl, ?_⟩
    cases h1 : betD d 1 50 with
    | false => exact iteT (mkX_fin fun e he => hE _ (lullDue_no h1) _ Ext.rfl' e he)
    | true =>
      obtain ⟨di, rfl, d1, d2⟩ := bet_yes h1
      obtain rfl := dp_int hd
      rw [lullDue_yes h1] at hE
      refine iteF ⟨_, rfl, vt, rfl, vl, rfl, di, vt, vl, t, l, rfl, ht, hl, fun s hs => hE s (by rw [hs]; rfl), fun h2 => ?_⟩
      refine ⟨vq, rfl, vq, q, rfl, hq, fun s hs => hE s (by rw [h2, hs]; rfl), fun h3 => ?_⟩
      obtain ⟨ti, li, rfl, rfl, _⟩ := lullDue2_none h2
      obtain ⟨qi, rfl, _⟩ := quietDue_none h3
      obtain rfl := dp_int ht
      obtain rfl := dp_int hl
      obtain rfl := dp_int hq
      refine ⟨_, rfl, _, rfl, p, A.Lull, dx, [], rfl, hp, T.Lull.cl, T.c_delay, (by show 0 < 1000; decide), ?_⟩
      refine ⟨_, rfl, _, rfl, p, A.Lull, dx, _, rfl, upd_same, T.Lull.cl, T.c_turn, (by show 1 < 1000; decide), ?_⟩
      refine ⟨_, rfl, _, rfl, p, A.Lull, dx, _, rfl, upd_same, T.Lull.cl, T.c_losses, (by show 2 < 1000; decide), ?_⟩
      refine ⟨_, rfl, _, rfl, p, A.Lull, dx, _, rfl, upd_same, T.Lull.cl, T.c_quiet, (by show 3 < 1000; decide), ?_⟩
      refine hQ di ti li qi rfl rfl rfl rfl (by rw [lullDue_yes h1, h2, h3]; rfl) _ ⟨dx, upd_same.trans (by rfl)⟩ fun x u hx hu => ?_
      rw [upd_ne hx, upd_ne hx, upd_ne hx, upd_ne hx]
      exact hu
def spLullEq (K : PySem.W.Frag) (A : Ad) : Sp := fun vs H Q _ => ∃ (p : Addr) (d t l z : Int) (v : V), vs = [.ref p, v] ∧ LullAt A H p d t l z ∧
  ((∃ (q : Addr) (d' t' l' z' : Int), v = .ref q ∧ LullAt A H q d' t' l' z' ∧ Q (.bl (decide (d = d' ∧ t = t' ∧ l = l' ∧ z = z'))) H) ∨ ∃ e, Dp K H v e ∧ Q (.bl false) H)
theorem ok_lullEq {f : Addr} {fd : FuncData} (F : Fun K "__eq__" "Lull.__eq__" s_Lull_eq f fd) (T : Txt K mg A) : FnOk P w K mg base CX0 1 f fd pm_Lull_eq (spLullEq K A) := by
  refine F.ok sc_Lull_eq (fun vs H Q E h => ?_) (fun cdv A' outer s H vs Q E hr h => ?_)
  · obtain ⟨_, _, _, _, _, _, rfl, _⟩ := h
    rfl
  · obtain ⟨p, d, t, l, z, v, rfl, ⟨dx, hp⟩, h⟩ := h
    refine ⟨_, pss_cons (ps_if (PW.pt (pw_or (pt_not (pt_val (pe_callB call_isi (by rfl) T.n_isinstance (by decide +kernel) (pa_cons (pv 1) (pa_cons (pe_gcls T.Lull.gC) pa_nil))))) (pw_or (pt_cmpR op_ne (pe_fld (pv 0) rfl) (pe_fld (pv 1) rfl) (nomark _)) (pw_or1 (pt_cmpR op_ne (pe_fld (pv 0) rfl) (pe_fld (pv 1) rfl) (nomark _)))))) (pss_one (ps_ret (pe_bl))) (pss_nil))
      (pss_one (ps_ret (pe_and (pe_cmpR op_eq (pe_fld (pv 0) rfl) (pe_fld (pv 1) rfl) (nomark _)) (pe_one (pe_cmpR op_eq (pe_fld (pv 0) rfl) (pe_fld (pv 1) rfl) (nomark _)))))), ?_⟩
    rcases h with ⟨q, d', t', l', z', rfl, ⟨dy, hq⟩, k⟩ | ⟨e, he, k⟩
    · refine ⟨_, rfl, _, .ref A.Lull, .ref A.Lull, .ref A.Lull, true, rfl, .own _, T.Lull.tyOf hq, T.Lull.me, _, rfl, ?_⟩
      refine iteF ⟨_, rfl, p, A.Lull, dx, _, _, rfl, hp, T.Lull.cl, T.c_delay, rfl, _, rfl, q, A.Lull, dy, _, _, rfl, hq, T.Lull.cl, T.c_delay, rfl, rfl, _, rfl, ?_⟩
      rw [dvi]
      by_cases h1 : d = d'
      · rw [decide_eq_true h1]
        refine iteF ⟨_, rfl, p, A.Lull, dx, _, _, rfl, hp, T.Lull.cl, T.c_turn, rfl, _, rfl, q, A.Lull, dy, _, _, rfl, hq, T.Lull.cl, T.c_turn, rfl, rfl, _, rfl, ?_⟩
        rw [dvi]
        by_cases h2 : t = t'
        · rw [decide_eq_true h2]
          refine iteF ⟨_, rfl, p, A.Lull, dx, _, _, rfl, hp, T.Lull.cl, T.c_losses, rfl, _, rfl, q, A.Lull, dy, _, _, rfl, hq, T.Lull.cl, T.c_losses, rfl, rfl, _, rfl, ?_⟩
          rw [dvi]
          by_cases h3 : l = l'
          · rw [decide_eq_true h3]
            refine iteT ⟨_, rfl, p, A.Lull, dx, _, _, rfl, hp, T.Lull.cl, T.c_quiet, rfl, _, rfl, q, A.Lull, dy, _, _, rfl, hq, T.Lull.cl, T.c_quiet, rfl, rfl, ?_⟩
            rw [dvi]
            rw [show decide (d = d' ∧ t = t' ∧ l = l' ∧ z = z') = decide (z = z') by simp [h1, h2, h3]] at k
            exact k
          · rw [decide_eq_false h3]
            rw [decide_eq_false (by simp [h3])] at k
            exact iteF k
        · rw [decide_eq_false h2]
          rw [decide_eq_false (by simp [h2])] at k
          exact iteT k
      · rw [decide_eq_false h1]
        rw [decide_eq_false (by simp [h1])] at k
        exact iteT k
    · refine ⟨_, rfl, _, .ref A.Lull, .type (tnD e), .ref A.Lull, false, rfl, .own _, dp_ty he, T.Lull.kitB (sub_ty_ref kd_find) rfl, _, rfl, ?_⟩
      exact iteT k
end
end K29

set_option Elab.async false
set_option maxRecDepth 100000
set_option maxHeartbeats 4000000
namespace K29
open PySem PySem.Spec PyProof.Rows L2
theorem small_sz {n : Nat} (h : n ≤ 2000) : n < sizeLine := by show n < 16777216; omega
theorem dp_betw {K : PySem.W.Frag} {H : Hp} {v : V} {d : PyData} {a b : Int} (h : Dp K H v d) : betD d a b = betw v a b := by
  cases h <;> rfl
def rowsD (x : PyData) : Bool := match itemsD x with
  | some ds => (decide ((1 : Int) ≤ (ds.length : Int)) && decide ((ds.length : Int) ≤ 3)) && ds.all (fun d => betD d 1 600)
  | none => false
theorem rowsD_no {x : PyData} (h : (isSeqD x && (decide ((1 : Int) ≤ (lenD x : Int)) && decide ((lenD x : Int) ≤ 3))) = false) : rowsD x = false := by
  unfold rowsD
  cases x with
  | list ds =>
    show ((decide ((1 : Int) ≤ (ds.length : Int)) && decide ((ds.length : Int) ≤ 3)) && _) = false
    have z : (true && (decide ((1 : Int) ≤ (ds.length : Int)) && decide ((ds.length : Int) ≤ 3))) = false := h
    rw [Bool.true_and] at z
    rw [z, Bool.false_and]
  | tuple ds =>
    show ((decide ((1 : Int) ≤ (ds.length : Int)) && decide ((ds.length : Int) ≤ 3)) && _) = false
    have z : (true && (decide ((1 : Int) ≤ (ds.length : Int)) && decide ((ds.length : Int) ≤ 3))) = false := h
    rw [Bool.true_and] at z
    rw [z, Bool.false_and]
  | _ => rfl
theorem all_betw {K : PySem.W.Frag} {H : Hp} : ∀ {xs : List V} {ds : List PyData}, DpAll K H xs ds → ds.all (fun d => betD d 1 600) = (xs.map fun v => betw v 1 600).all id
  | [], _, h => by cases h; rfl
  | x :: xs, _, h => by
    cases h with
    | cons h1 h2 =>
      rw [List.all_cons, all_betw h2, dp_betw h1]
      rfl
theorem rows_yes {x : PyData} (h : rowsD x = true) : ∃ rs : List Int, itemsD x = some (rs.map PyData.int) ∧ 1 ≤ rs.length ∧ rs.length ≤ 3 ∧ ∀ r ∈ rs, 1 ≤ r ∧ r ≤ 600 := by
  unfold rowsD at h
  cases hi : itemsD x with
  | none => rw [hi] at h; cases h
  | some ds =>
    rw [hi] at h
    have h' : ((decide ((1 : Int) ≤ (ds.length : Int)) && decide ((ds.length : Int) ≤ 3)) && ds.all (fun d => betD d 1 600)) = true := h
    rw [Bool.and_eq_true, Bool.and_eq_true, decide_eq_true_eq, decide_eq_true_eq] at h'
    obtain ⟨⟨a, b⟩, c⟩ := h'
    have key : ∀ ds : List PyData, (∀ d ∈ ds, betD d 1 600 = true) → ∃ rs : List Int, ds = rs.map PyData.int ∧ ∀ r ∈ rs, 1 ≤ r ∧ r ≤ 600 := fun ds => by
      induction ds with
      | nil => exact fun _ => ⟨[], rfl, fun _ h => nomatch h⟩
      | cons d ds ih =>
        intro hd
        obtain ⟨rs, e, hr⟩ := ih fun d' h' => hd d' (List.mem_cons_of_mem _ h')
        obtain ⟨n, rfl, n1, n2⟩ := bet_yes (hd d List.mem_cons_self)
        refine ⟨n :: rs, by rw [e]; rfl, fun r hr' => ?_⟩
        rcases List.mem_cons.mp hr' with rfl | hr'
        · exact ⟨n1, n2⟩
        · exact hr r hr'
    obtain ⟨rs, rfl, hr⟩ := key ds fun d hd => List.all_eq_true.mp c d hd
    rw [List.length_map] at a b
    exact ⟨rs, rfl, by omega, by omega, hr⟩
theorem dp_ints {K : PySem.W.Frag} {H : Hp} : ∀ {xs : List V} {rs : List Int}, DpAll K H xs (rs.map PyData.int) → xs = rs.map V.int
  | [], [], _ => rfl
  | [], _ :: _, h => by cases h
  | _ :: _, [], h => by cases h
  | x :: xs, r :: rs, h => by
    cases h with
    | cons h1 h2 =>
      cases h1
      rw [dp_ints h2]
      rfl
/-- what of a road is wrong first, behind its way -/
def perDue (pe : PyData) : Option Str := if betD pe 1 200 = false then some "period" else none
def rowsDue (ro qu pe : PyData) : Option Str := if rowsD ro = false then some "rows" else (quietDue qu).or (perDue pe)
def roadDue (n l m : Int) (la tu lo ro qu pe : PyData) : Option Str := if betD la (n + 2 * l) (n + 2 * m) = false then some "last" else (lullDue2 m tu lo).or (rowsDue ro qu pe)
def rF (wp T : Addr) (la tu lo qu pe : Int) : List (Str × V) := [("way", .ref wp), ("last", .int la), ("turn", .int tu), ("losses", .int lo), ("rows", .ref T), ("quiet", .int qu), ("period", .int pe)]
section
variable {P : Program} {w : World} {K : PySem.W.Frag} {mg : Str → Option Value} {base : Heap} {A : Ad}
def spRows (K : PySem.W.Frag) : Sp := fun vs H Q _ => ∃ (v : V) (x : PyData), vs = [v] ∧ Dp K H v x ∧ ∀ H', Ext H H' → Q (.bl (rowsD x)) H'
theorem ok_rows {f : Addr} {fd : FuncData} (F : Fun K "are_rows" "are_rows" s_are_rows f fd) (T : Txt K mg A) (O_is_list_of : Own P w K mg base CX0 "is_list_of" 2 pm_is_list_of (spListOf K)) (O_is_between : Own P w K mg base CX0 "is_between" 2 pm_is_between (spBetween K)) : FnOk P w K mg base CX0 3 f fd pm_are_rows (spRows K) := by
  refine F.ok sc_are_rows (fun vs H Q E h => ?_) (fun cdv A' outer s H vs Q E hr h => ?_)
  · obtain ⟨_, _, rfl, _⟩ := h
    rfl
  · obtain ⟨v, x, rfl, hx, q⟩ := h
    refine ⟨_, pss_one (ps_ret (pe_and (pe_own O_is_list_of (hr.mono (by decide)) pass0 (pa_cons (pv 0) (pa_cons (pe_int) (pa_cons (pe_gint T.g_MOST_ROWS) pa_nil)))) (pe_one (pe_callB (cr_all rfl) (by rfl) T.n_all (by decide +kernel) (pa_cons (pe_lc (own := [("row", 1)]) (g := gName 1) (by rfl) sc_are_rows.nd (pi_sq (pv 0)) (blkOk_by (own := [("row", 1)]) (N := nm_are_rows) (sc := defScope s_are_rows) (by decide +kernel)) (fun _ _ _ _ _ => pg_name (i := 1) sc_are_rows.nd rfl (Or.inl rfl)) (fun s1 H1 C1 cl fp => pts_nil) (fun s1 H1 C1 cl fp => pe_own O_is_between (hr.mono (by decide)) pass0 (pa_cons (pv 1) (pa_cons (pe_int) (pa_cons (pe_gint T.g_MOST_PARCELS) pa_nil))))) pa_nil))))), ?_⟩
    obtain ⟨tx, ix, k1, k2, k3, k4⟩ := listOf_key hx
    refine ⟨v, rfl, v, tx, isSeqD x, 1, 3, ix, rfl, k1, k2, k3, fun H1 e1 => ⟨_, rfl, ?_⟩⟩
    rw [k4]
    cases h3 : (isSeqD x && (decide ((1 : Int) ≤ (lenD x : Int)) && decide ((lenD x : Int) ≤ 3))) with
    | false =>
      have := q H1 e1
      rw [rowsD_no h3] at this
      exact iteF this
    | true =>
      have h3' := (Bool.and_eq_true_iff.mp h3).1
      obtain ⟨a, xs, ds, rfl, hsq, ha, hd⟩ := dp_seq (dp_ext e1 _ _ hx) h3'
      have hit : itemsD x = some ds := by rcases hd with rfl | rfl <;> rfl
      have hlen : lenD x = ds.length := by rcases hd with rfl | rfl <;> rfl
      have small : xs.length ≤ 3 := by
        have z := (Bool.and_eq_true_iff.mp (Bool.and_eq_true_iff.mp h3).2).2
        rw [dp_lenD ha hd, decide_eq_true_eq] at z
        omega
      have hro : rowsD x = (xs.map fun v => betw v 1 600).all id := by
        unfold rowsD
        rw [hit]
        show ((decide ((1 : Int) ≤ (ds.length : Int)) && decide ((ds.length : Int) ≤ 3)) && ds.all (fun d => betD d 1 600)) = _
        rw [← hlen, (Bool.and_eq_true_iff.mp h3).2, Bool.true_and, all_betw ha]
      refine iteT ⟨_, rfl, a, rfl, lc_sqG (f := fun v => .bl (betw v 1 600)) (b := fun _ => true) hsq (small_sz (by omega)) (fun x => rfl) (fun x hm H' e' Q' q' => q' _ Ext.rfl') (fun x hm _ H' e' Q' q' => ?_) (fun C H4 hC e4 hlC => ?_)⟩
      · obtain ⟨i, hi⟩ := List.mem_iff_getElem?.mp hm
        obtain ⟨d, _, hdv⟩ := dps_get (dps_ext e' _ _ ha) hi
        refine ⟨_, rfl, x, d, 1, 600, rfl, hdv, ?_⟩
        rw [dp_betw hdv]
        exact q' _ Ext.rfl'
      · rw [L2.filter_all] at hlC
        refine ⟨C, xs.map fun v => betw v 1 600, rfl, SqL.of (by rw [hlC, List.map_map]; rfl), ?_⟩
        rw [← hro]
        exact q _ (e1.trans e4)
/-! ### Road -/
def RoadAt (K : PySem.W.Frag) (A : Ad) (H : Hp) (p wp : Addr) (la tu lo : Int) (rs : List Int) (qu pe : Int) : Prop := ∃ dx T, H p = some (.ins A.Road dx (rF wp T la tu lo qu pe)) ∧ SqT K H T (rs.map V.int)
theorem RoadAt.ext {H H' : Hp} {p wp : Addr} {la tu lo qu pe : Int} {rs : List Int} (h : RoadAt K A H p wp la tu lo rs qu pe) (e : Ext H H') : RoadAt K A H' p wp la tu lo rs qu pe := by
  obtain ⟨dx, T, h1, h2⟩ := h
  exact ⟨dx, T, e _ _ h1, h2.ext e⟩
def spRoadInit (K : PySem.W.Frag) (A : Ad) : Sp := fun vs H Q E => ∃ (p dx : Addr) (vw vla vtu vlo vro vqu vpe : V) (la tu lo ro qu pe : PyData), vs = [.ref p, vw, vla, vtu, vlo, vro, vqu, vpe] ∧ H p = some (.ins A.Road dx []) ∧
  Dp K H vla la ∧ Dp K H vtu tu ∧ Dp K H vlo lo ∧ Dp K H vro ro ∧ Dp K H vqu qu ∧ Dp K H vpe pe ∧
  ((∃ e, Dp K H vw e ∧ ErrP A H E "way") ∨ ∃ wp b l m bs, vw = .ref wp ∧ MyWay K A H wp b l m bs ∧ (b = none → ErrP A H E "way") ∧ ∀ n, b = some n → (∀ s, roadDue n l m la tu lo ro qu pe = some s → ErrP A H E s) ∧
    (roadDue n l m la tu lo ro qu pe = none → ∀ (lai tui loi qui pei : Int) (rs : List Int), la = .int lai → tu = .int tui → lo = .int loi → qu = .int qui → pe = .int pei → itemsD ro = some (rs.map PyData.int) → ∀ H', RoadAt K A H' p wp lai tui loi rs qui pei → (∀ x u, x ≠ p → H x = some u → H' x = some u) → Q .non H'))
theorem ok_roadInit {f : Addr} {fd : FuncData} (F : Fun K "__init__" "Road.__init__" s_Road_init f fd) (T : Txt K mg A) (O_is_between : Own P w K mg base CX0 "is_between" 2 pm_is_between (spBetween K)) (O_Way_window : OwnM P w K mg base CX0 A.Way "window" 1 pm_Way_window (spWindow K A))
    (O_check_lull : Own P w K mg base (L2.CX P w) "check_lull" 4 pm_check_lull (spCheckLull K A)) (O_check_quiet : Own P w K mg base (L2.CX P w) "check_quiet" 4 pm_check_quiet (spCheckQuiet K A)) (O_are_rows : Own P w K mg base CX0 "are_rows" 3 pm_are_rows (spRows K)) (X_BadPart : XCls P w K mg base "BadPart" "part" A.BadPart) : FnOk P w K mg base (L2.CX P w) 5 f fd pm_Road_init (spRoadInit K A) := by
  refine F.okX sc_Road_init (fun vs H Q E h => ?_) (fun cdv A' outer s H vs Q E hr h => ?_)
  · obtain ⟨_, _, _, _, _, _, _, _, _, _, _, _, _, _, _, rfl, _⟩ := h
    rfl
  · obtain ⟨p, dx, vw, vla, vtu, vlo, vro, vqu, vpe, la, tu, lo, ro, qu, pe, rfl, hp, hla, htu, hlo, hro, hqu, hpe, h⟩ := h
    refine ⟨_, pss_cons (ps_if (PW.pt (pw_or (pt_not (pt_val (pe_callB call_isi (by rfl) T.n_isinstance (by decide +kernel) (pa_cons (pv 1) (pa_cons (pe_gcls T.Way.gC) pa_nil))))) (pw_or1 (pt_cmpR op_isN (pe_fld (pv 1) rfl) (pe_non) (nomark _))))) (pss_one (ps_raise rfl (takes_of rfl rfl rfl rfl) (pmk_X X_BadPart (hr.mono (by decide)) (pe_str) rfl))) (pss_nil))
      (pss_cons (ps_asg (pe_ownM0 O_Way_window (pv 1) T.Way.cl (hr.mono (by decide)) pass0) (pg_tup rfl (pgs_cons (pg_name (i := 8) sc_Road_init.nd rfl (Or.inl rfl)) (pgs_cons (pg_name (i := 9) sc_Road_init.nd rfl (Or.inl rfl)) (pgs_nil)))))
      (pss_cons (ps_if (pt_not (pt_val (pe_own O_is_between (hr.mono (by decide)) pass0 (pa_cons (pv 2) (pa_cons (pv 8) (pa_cons (pv 9) pa_nil)))))) (pss_one (ps_raise rfl (takes_of rfl rfl rfl rfl) (pmk_X X_BadPart (hr.mono (by decide)) (pe_str) rfl))) (pss_nil))
      (pss_cons (ps_expr (pe_ownS O_check_lull (hr.mono (by decide)) (takes_of rfl rfl rfl rfl) (pa_cons (pe_fld (pv 1) rfl) (pa_cons (pv 3) (pa_cons (pv 4) pa_nil)))))
      (pss_cons (ps_if (pt_not (pt_val (pe_own O_are_rows (hr.mono (by decide)) pass0 (pa_cons (pv 5) pa_nil)))) (pss_one (ps_raise rfl (takes_of rfl rfl rfl rfl) (pmk_X X_BadPart (hr.mono (by decide)) (pe_str) rfl))) (pss_nil))
      (pss_cons (ps_expr (pe_ownS O_check_quiet (hr.mono (by decide)) (takes_of rfl rfl rfl rfl) (pa_cons (pv 6) pa_nil)))
      (pss_cons (ps_if (pt_not (pt_val (pe_own O_is_between (hr.mono (by decide)) pass0 (pa_cons (pv 7) (pa_cons (pe_int) (pa_cons (pe_gint T.g_MOST_PERIOD) pa_nil)))))) (pss_one (ps_raise rfl (takes_of rfl rfl rfl rfl) (pmk_X X_BadPart (hr.mono (by decide)) (pe_str) rfl))) (pss_nil))
      (pss_cons (ps_fld (pv 0) (pv 1) rfl)
      (pss_cons (ps_fld (pv 0) (pv 2) rfl)
      (pss_cons (ps_fld (pv 0) (pv 3) rfl)
      (pss_cons (ps_fld (pv 0) (pv 4) rfl)
      (pss_cons (ps_fld (pv 0) (pe_callTy call_tuple_of (by rfl) T.n_tuple (by decide +kernel) (pa_cons (pv 5) pa_nil)) rfl)
      (pss_cons (ps_fld (pv 0) (pv 6) rfl)
      (pss_one (ps_fld (pv 0) (pv 7) rfl)))))))))))))), ?_⟩
    rcases h with ⟨e, he, hE⟩ | ⟨wp, b, l, m, bs, rfl, hw, hE0, hsome⟩
    · refine ⟨vw, rfl, vw, .ref A.Way, .type (tnD e), .ref A.Way, false, rfl, .own _, dp_ty he, T.Way.kitB (sub_ty_ref kd_find) rfl, _, rfl, ?_⟩
      exact iteT (iteT (mkX_fin fun a ha => hE _ Ext.rfl' a ha))
    · obtain ⟨dw, Tw, ws, hwp, hTw, haw⟩ := id hw
      refine ⟨_, rfl, _, .ref A.Way, .ref A.Way, .ref A.Way, true, rfl, .own _, T.Way.tyOf hwp, T.Way.me, _, rfl, ?_⟩
      refine iteF ⟨_, rfl, wp, A.Way, dw, _, _, rfl, hwp, T.Way.cl, T.w_begin, rfl, rfl, _, rfl, ?_⟩
      cases b with
      | none => exact iteT (mkX_fin fun a ha => hE0 rfl _ Ext.rfl' a ha)
      | some n =>
        obtain ⟨hE, hQ⟩ := hsome n rfl
        refine iteF ⟨_, rfl, wp, dw, _, rfl, hwp, rfl, wp, some n, l, m, bs, rfl, hw, (fun h => nomatch h), fun n' hn t H1 e1 ht => ?_⟩
        cases hn
        refine ⟨t, _, rfl, SqT.of ht, rfl, _, _, rfl, _, _, rfl, rfl, ?_⟩
        have hla1 := dp_ext e1 _ _ hla
        refine ⟨vla, rfl, _, rfl, _, rfl, vla, la, n + 2 * l, n + 2 * m, rfl, hla1, _, rfl, ?_⟩
        cases h1 : betD la (n + 2 * l) (n + 2 * m) with
        | false => exact iteT (mkX_fin fun a ha => hE _ (if_pos h1) _ e1 a ha)
        | true =>
          have due : roadDue n l m la tu lo ro qu pe = (lullDue2 m tu lo).or (rowsDue ro qu pe) := if_neg (by rw [h1]; decide)
          rw [due] at hE hQ
          have hwp1 := e1 _ _ hwp
          refine iteF ⟨_, rfl, wp, A.Way, dw, _, _, rfl, hwp1, T.Way.cl, T.w_most, rfl, vtu, rfl, vlo, rfl, m, vtu, vlo, tu, lo, rfl, dp_ext e1 _ _ htu, dp_ext e1 _ _ hlo, fun s hs => (hE s (by rw [hs]; rfl)).to e1, fun h2 => ?_⟩
          refine ⟨vro, rfl, vro, ro, rfl, dp_ext e1 _ _ hro, fun H2 e2 => ⟨_, rfl, ?_⟩⟩
          have e02 := e1.trans e2
          cases h3 : rowsD ro with
          | false => exact iteT (mkX_fin fun a ha => hE "rows" (by rw [h2]; show rowsDue ro qu pe = _; unfold rowsDue; rw [if_pos h3]) _ e02 a ha)
          | true =>
            have due2 : (lullDue2 m tu lo).or (rowsDue ro qu pe) = (quietDue qu).or (perDue pe) := by
              rw [h2]
              exact if_neg (by rw [h3]; decide)
            rw [due2] at hE hQ
            refine iteF ⟨vqu, rfl, vqu, qu, rfl, dp_ext e02 _ _ hqu, fun s hs => (hE s (by rw [hs]; rfl)).to e02, fun h4 => ?_⟩
            refine ⟨vpe, rfl, vpe, pe, 1, 200, rfl, dp_ext e02 _ _ hpe, _, rfl, ?_⟩
            cases h5 : betD pe 1 200 with
            | false => exact iteT (mkX_fin fun a ha => hE "period" (by rw [h4]; exact if_pos h5) _ e02 a ha)
            | true =>
              refine iteF ?_
              obtain ⟨lai, rfl, _⟩ := bet_yes h1
              obtain ⟨pei, rfl, _⟩ := bet_yes h5
              obtain ⟨tui, loi, rfl, rfl, _⟩ := lullDue2_none h2
              obtain ⟨qui, rfl, _⟩ := quietDue_none h4
              obtain ⟨rs, hit, r1, r3, _⟩ := rows_yes h3
              obtain rfl := dp_int hla
              obtain rfl := dp_int htu
              obtain rfl := dp_int hlo
              obtain rfl := dp_int hqu
              obtain rfl := dp_int hpe
              have hnone : (quietDue (.int qui)).or (perDue (.int pei)) = none := by
                rw [h4]
                exact if_neg (by rw [h5]; decide)
              have hp2 := e02 _ _ hp
              have hseq : isSeqD ro = true := by
                cases ro <;> first | rfl | cases hit
              obtain ⟨a, xs, ds, rfl, hsq, ha, hd⟩ := dp_seq (dp_ext e02 _ _ hro) hseq
              have hds : ds = rs.map PyData.int := by
                have : itemsD ro = some ds := by rcases hd with rfl | rfl <;> rfl
                rw [this] at hit
                exact Option.some.inj hit
              subst hds
              obtain rfl := dp_ints ha
              refine ⟨_, rfl, _, rfl, p, A.Road, dx, [], rfl, hp2, T.Road.cl, T.r_way, (by show 0 < 1000; decide), ?_⟩
              refine ⟨_, rfl, _, rfl, p, A.Road, dx, _, rfl, upd_same, T.Road.cl, T.r_last, (by show 1 < 1000; decide), ?_⟩
              refine ⟨_, rfl, _, rfl, p, A.Road, dx, _, rfl, upd_same, T.Road.cl, T.r_turn, (by show 2 < 1000; decide), ?_⟩
              refine ⟨_, rfl, _, rfl, p, A.Road, dx, _, rfl, upd_same, T.Road.cl, T.r_losses, (by show 3 < 1000; decide), ?_⟩
              have st4 : ∃ H4, (∀ x u, x ≠ p → H2 x = some u → H4 x = some u) ∧ H4 p = some (.ins A.Road dx [("way", .ref wp), ("last", .int lai), ("turn", .int tui), ("losses", .int loi)]) ∧ H4 = upd (upd (upd (upd H2 p (.ins A.Road dx (putF "way" (.ref wp) []))) p (.ins A.Road dx (putF "last" (.int lai) (putF "way" (.ref wp) [])))) p (.ins A.Road dx (putF "turn" (.int tui) (putF "last" (.int lai) (putF "way" (.ref wp) []))))) p (.ins A.Road dx (putF "losses" (.int loi) (putF "turn" (.int tui) (putF "last" (.int lai) (putF "way" (.ref wp) []))))) :=
                ⟨_, fun x u hx hu => by rw [upd_ne hx, upd_ne hx, upd_ne hx, upd_ne hx]; exact hu, upd_same, rfl⟩
              obtain ⟨H4, hm4, hp4, e4⟩ := st4
              rw [← e4]
              have fin : ∀ (t : Addr) (H5 : Hp), (∀ x u, x ≠ p → H2 x = some u → H5 x = some u) → SqT K H5 t (rs.map V.int) → H5 p = some (.ins A.Road dx [("way", .ref wp), ("last", .int lai), ("turn", .int tui), ("losses", .int loi), ("rows", .ref t)]) → Q .non (upd (upd H5 p (.ins A.Road dx (putF "quiet" (.int qui) [("way", .ref wp), ("last", .int lai), ("turn", .int tui), ("losses", .int loi), ("rows", .ref t)]))) p (.ins A.Road dx (putF "period" (.int pei) (putF "quiet" (.int qui) [("way", .ref wp), ("last", .int lai), ("turn", .int tui), ("losses", .int loi), ("rows", .ref t)])))) := fun t H5 hm5 ht5 hp5 => by
                refine hQ hnone lai tui loi qui pei rs rfl rfl rfl rfl rfl hit _ ⟨dx, t, upd_same.trans (by rfl), sqT_mut hp5 (fun x o hx ho => by rw [upd_ne hx, upd_ne hx]; exact ho) ht5⟩ fun x u hx hu => ?_
                rw [upd_ne hx, upd_ne hx]
                exact hm5 x u hx (e02 _ _ hu)
              refine ⟨_, rfl, a, rs.map V.int, rfl, ?_⟩
              rcases hsq with hsq | hsq
              · refine .inl ⟨sqL_mut hp2 (fun x o hx ho => hm4 x o hx ho) hsq, fun t ht => ⟨_, rfl, p, A.Road, dx, _, rfl, Ext.upd ht _ _ hp4, T.Road.cl, T.r_rows, (by show 4 < 1000; decide), ?_⟩⟩
                have ntp : t ≠ p := fun z => by rw [z, hp4] at ht; cases ht
                refine ⟨_, rfl, _, rfl, p, A.Road, dx, _, rfl, upd_same, T.Road.cl, T.r_quiet, (by show 5 < 1000; decide), ?_⟩
                refine ⟨_, rfl, _, rfl, p, A.Road, dx, _, rfl, upd_same, T.Road.cl, T.r_period, (by show 6 < 1000; decide), ?_⟩
                exact fin t _ (fun x u hx hu => by rw [upd_ne hx]; exact Ext.upd ht _ _ (hm4 x u hx hu)) (SqT.of (by rw [upd_ne ntp]; exact upd_same)) upd_same
              · refine .inr ⟨sqT_mut hp2 (fun x o hx ho => hm4 x o hx ho) hsq, _, rfl, p, A.Road, dx, _, rfl, hp4, T.Road.cl, T.r_rows, (by show 4 < 1000; decide), ?_⟩
                refine ⟨_, rfl, _, rfl, p, A.Road, dx, _, rfl, upd_same, T.Road.cl, T.r_quiet, (by show 5 < 1000; decide), ?_⟩
                refine ⟨_, rfl, _, rfl, p, A.Road, dx, _, rfl, upd_same, T.Road.cl, T.r_period, (by show 6 < 1000; decide), ?_⟩
                exact fin a _ (fun x u hx hu => by rw [upd_ne hx]; exact hm4 x u hx hu) (sqT_mut hp2 (fun x o hx ho => by rw [upd_ne hx]; exact hm4 x o hx ho) hsq) upd_same
end
end K29

set_option Elab.async false
set_option maxRecDepth 100000
set_option maxHeartbeats 4000000
namespace K29
open PySem PySem.Spec PyProof.Rows L2
/-- a road's data -/
structure RdD where
  (b : Option Int) (l m : Int) (bs : List Bx) (la tu lo : Int) (rs : List Int) (qu pe : Int)
  deriving DecidableEq
section
variable {P : Program} {w : World} {K : PySem.W.Frag} {mg : Str → Option Value} {base : Heap} {A : Ad}
def RdAt (K : PySem.W.Frag) (A : Ad) (H : Hp) (p : Addr) (r : RdD) : Prop := ∃ wp, RoadAt K A H p wp r.la r.tu r.lo r.rs r.qu r.pe ∧ MyWay K A H wp r.b r.l r.m r.bs
theorem RdAt.ext {H H' : Hp} {p : Addr} {r : RdD} (h : RdAt K A H p r) (e : Ext H H') : RdAt K A H' p r := by
  obtain ⟨wp, h1, h2⟩ := h
  exact ⟨wp, h1.ext e, h2.ext e⟩
def spRoadEq (K : PySem.W.Frag) (A : Ad) : Sp := fun vs H Q _ => ∃ (p : Addr) (r : RdD) (v : V), vs = [.ref p, v] ∧ RdAt K A H p r ∧ ((∃ q r', v = .ref q ∧ RdAt K A H q r' ∧ Q (.bl (decide (r = r'))) H) ∨ ∃ e, Dp K H v e ∧ Q (.bl false) H)
theorem rd_eq {r r' : RdD} : r = r' ↔ (r.b = r'.b ∧ r.l = r'.l ∧ r.m = r'.m ∧ r.bs = r'.bs) ∧ r.la = r'.la ∧ r.tu = r'.tu ∧ r.lo = r'.lo ∧ r.rs = r'.rs ∧ r.qu = r'.qu ∧ r.pe = r'.pe := by
  cases r
  cases r'
  simp only [RdD.mk.injEq]
  constructor
  · rintro ⟨h1, h2, h3, h4, h5, h6, h7, h8, h9, h10⟩
    exact ⟨⟨h1, h2, h3, h4⟩, h5, h6, h7, h8, h9, h10⟩
  · rintro ⟨⟨h1, h2, h3, h4⟩, h5, h6, h7, h8, h9, h10⟩
    exact ⟨h1, h2, h3, h4, h5, h6, h7, h8, h9, h10⟩
theorem ok_roadEq {f : Addr} {fd : FuncData} (F : Fun K "__eq__" "Road.__eq__" s_Road_eq f fd) (T : Txt K mg A) (O_Way_eq : OwnM P w K mg base CX0 A.Way "__eq__" 1 pm_Way_eq (spWayEq K A)) : FnOk P w K mg base CX0 3 f fd pm_Road_eq (spRoadEq K A) := by
  refine F.ok sc_Road_eq (fun vs H Q E h => ?_) (fun cdv A' outer s H vs Q E hr h => ?_)
  · obtain ⟨_, _, _, rfl, _⟩ := h
    rfl
  · obtain ⟨p, r, v, rfl, ⟨wp, ⟨dx, Tp, hp, hT⟩, hw⟩, h⟩ := h
    refine ⟨_, pss_cons (ps_if (PW.pt (pw_or (pt_not (pt_val (pe_callB call_isi (by rfl) T.n_isinstance (by decide +kernel) (pa_cons (pv 1) (pa_cons (pe_gcls T.Road.gC) pa_nil))))) (pw_or (pt_cmpR (neO O_Way_eq T.Way.neM (hr.mono (by decide)) pass0) (pe_fld (pv 0) rfl) (pe_fld (pv 1) rfl) (nomark _)) (pw_or1 (pt_cmpR op_ne (pe_fld (pv 0) rfl) (pe_fld (pv 1) rfl) (nomark _)))))) (pss_one (ps_ret (pe_bl))) (pss_nil))
      (pss_cons (ps_if (PW.pt (pw_or (pt_cmpR op_ne (pe_fld (pv 0) rfl) (pe_fld (pv 1) rfl) (nomark _)) (pw_or (pt_cmpR op_ne (pe_fld (pv 0) rfl) (pe_fld (pv 1) rfl) (nomark _)) (pw_or1 (pt_cmpR (op_neD hr.units) (pe_fld (pv 0) rfl) (pe_fld (pv 1) rfl) (nomark _)))))) (pss_one (ps_ret (pe_bl))) (pss_nil))
      (pss_one (ps_ret (pe_and (pe_cmpR op_eq (pe_fld (pv 0) rfl) (pe_fld (pv 1) rfl) (nomark _)) (pe_one (pe_cmpR op_eq (pe_fld (pv 0) rfl) (pe_fld (pv 1) rfl) (nomark _))))))), ?_⟩
    rcases h with ⟨q, r', rfl, ⟨wq, ⟨dy, Tq, hq, hT'⟩, hw'⟩, k⟩ | ⟨e, he, k⟩
    · have no : ∀ h : ¬ (r = r'), Q (.bl false) H := fun h => by rw [decide_eq_false h] at k; exact k
      refine ⟨_, rfl, _, .ref A.Road, .ref A.Road, .ref A.Road, true, rfl, .own _, T.Road.tyOf hq, T.Road.me, _, rfl, ?_⟩
      obtain ⟨dw, Tw, ws, hwp, hTw, haw⟩ := id hw
      obtain ⟨dw', Tw', ws', hwq, hTw', haw'⟩ := id hw'
      refine iteF ⟨_, rfl, p, A.Road, dx, _, _, rfl, hp, T.Road.cl, T.r_way, rfl, _, rfl, q, A.Road, dy, _, _, rfl, hq, T.Road.cl, T.r_way, rfl, wp, dw, _, .ref A.Way, rfl, hwp, T.Way.tyOf hwq, T.Way.nfMe, wp, r.b, r.l, r.m, r.bs, _, rfl, hw, .inl ⟨wq, r'.b, r'.l, r'.m, r'.bs, rfl, hw', _, rfl, _, rfl, ?_⟩⟩
      by_cases h1 : r.b = r'.b ∧ r.l = r'.l ∧ r.m = r'.m ∧ r.bs = r'.bs
      · rw [decide_eq_true h1]
        refine iteF ⟨_, rfl, p, A.Road, dx, _, _, rfl, hp, T.Road.cl, T.r_last, rfl, _, rfl, q, A.Road, dy, _, _, rfl, hq, T.Road.cl, T.r_last, rfl, rfl, _, rfl, ?_⟩
        rw [dvi]
        by_cases h2 : r.la = r'.la
        · rw [decide_eq_true h2]
          refine iteF ⟨_, rfl, p, A.Road, dx, _, _, rfl, hp, T.Road.cl, T.r_turn, rfl, _, rfl, q, A.Road, dy, _, _, rfl, hq, T.Road.cl, T.r_turn, rfl, rfl, _, rfl, ?_⟩
          rw [dvi]
          by_cases h3 : r.tu = r'.tu
          · rw [decide_eq_true h3]
            refine iteF ⟨_, rfl, p, A.Road, dx, _, _, rfl, hp, T.Road.cl, T.r_losses, rfl, _, rfl, q, A.Road, dy, _, _, rfl, hq, T.Road.cl, T.r_losses, rfl, rfl, _, rfl, ?_⟩
            rw [dvi]
            by_cases h4 : r.lo = r'.lo
            · rw [decide_eq_true h4]
              refine iteF ⟨_, rfl, p, A.Road, dx, _, _, rfl, hp, T.Road.cl, T.r_rows, rfl, _, rfl, q, A.Road, dy, _, _, rfl, hq, T.Road.cl, T.r_rows, rfl, ?_⟩
              refine neD_tup hT hT' fl_ints fl_ints ⟨_, rfl, ?_⟩
              rw [eqv_ints]
              by_cases h5 : r.rs = r'.rs
              · rw [decide_eq_true h5]
                refine iteF ⟨_, rfl, p, A.Road, dx, _, _, rfl, hp, T.Road.cl, T.r_quiet, rfl, _, rfl, q, A.Road, dy, _, _, rfl, hq, T.Road.cl, T.r_quiet, rfl, rfl, _, rfl, ?_⟩
                rw [dvi]
                by_cases h6 : r.qu = r'.qu
                · rw [decide_eq_true h6]
                  refine iteT ⟨_, rfl, p, A.Road, dx, _, _, rfl, hp, T.Road.cl, T.r_period, rfl, _, rfl, q, A.Road, dy, _, _, rfl, hq, T.Road.cl, T.r_period, rfl, rfl, ?_⟩
                  rw [dvi]
                  have e : decide (r = r') = decide (r.pe = r'.pe) := by
                    rw [Bool.eq_iff_iff, decide_eq_true_eq, decide_eq_true_eq, rd_eq]
                    exact ⟨fun h => h.2.2.2.2.2.2, fun h => ⟨h1, h2, h3, h4, h5, h6, h⟩⟩
                  rw [e] at k
                  exact k
                · rw [decide_eq_false h6]
                  exact iteF (no fun h => h6 (rd_eq.mp h).2.2.2.2.2.1)
              · rw [decide_eq_false h5]
                exact iteT (no fun h => h5 (rd_eq.mp h).2.2.2.2.1)
            · rw [decide_eq_false h4]
              exact iteT (no fun h => h4 (rd_eq.mp h).2.2.2.1)
          · rw [decide_eq_false h3]
            exact iteT (no fun h => h3 (rd_eq.mp h).2.2.1)
        · rw [decide_eq_false h2]
          exact iteT (no fun h => h2 (rd_eq.mp h).2.1)
      · rw [decide_eq_false h1]
        exact iteT (no fun h => h1 (rd_eq.mp h).1)
    · refine ⟨_, rfl, _, .ref A.Road, .type (tnD e), .ref A.Road, false, rfl, .own _, dp_ty he, T.Road.kitB (sub_ty_ref kd_find) rfl, _, rfl, ?_⟩
      exact iteT (iteT k)
def spBox : Sp := fun vs H Q _ => ∃ (t : Addr) (a b c d : Int), vs = [.ref t] ∧ H t = some (.tup [.int a, .int b, .int c, .int d]) ∧ Q (.int (b - a)) H
theorem ok_spread {f : Addr} {fd : FuncData} (F : Fun K "spread_of" "spread_of" s_spread_of f fd) : FnOk P w K mg base CX0 1 f fd pm_spread_of spBox := by
  refine F.ok sc_spread_of (fun vs H Q E h => ?_) (fun cdv A' outer s H vs Q E hr h => ?_)
  · obtain ⟨_, _, _, _, _, rfl, _⟩ := h
    rfl
  · obtain ⟨t, a, b, c, d, rfl, ht, q⟩ := h
    refine ⟨_, pss_one (ps_ret (pe_op op_sub (pe_ix ix_tup (pv 0) (pe_int) (fun _ _ => rfl)) (pe_ix ix_tup (pv 0) (pe_int) (fun _ _ => rfl)))), ?_⟩
    exact ⟨_, rfl, t, _, 1, .int b, rfl, rfl, SqT.of ht, rfl, _, rfl, t, _, 0, .int a, rfl, rfl, SqT.of ht, rfl, _, _, rfl, rfl, q⟩
def spSlack : Sp := fun vs H Q _ => ∃ (t : Addr) (a b c d : Int), vs = [.ref t] ∧ H t = some (.tup [.int a, .int b, .int c, .int d]) ∧ Q (.int (c - (b - a))) H
theorem ok_slack {f : Addr} {fd : FuncData} (F : Fun K "slack_of" "slack_of" s_slack_of f fd) (O_spread_of : Own P w K mg base CX0 "spread_of" 1 pm_spread_of spBox) : FnOk P w K mg base CX0 2 f fd pm_slack_of spSlack := by
  refine F.ok sc_slack_of (fun vs H Q E h => ?_) (fun cdv A' outer s H vs Q E hr h => ?_)
  · obtain ⟨_, _, _, _, _, rfl, _⟩ := h
    rfl
  · obtain ⟨t, a, b, c, d, rfl, ht, q⟩ := h
    refine ⟨_, pss_one (ps_ret (pe_op op_sub (pe_ix ix_tup (pv 0) (pe_int) (fun _ _ => rfl)) (pe_own O_spread_of (hr.mono (by decide)) pass0 (pa_cons (pv 0) pa_nil)))), ?_⟩
    exact ⟨_, rfl, t, _, 2, .int c, rfl, rfl, SqT.of ht, rfl, _, rfl, t, a, b, c, d, rfl, ht, _, _, rfl, rfl, q⟩
/-- what a road's rows tell of its lull -/
def spLullOf (K : PySem.W.Frag) (A : Ad) : Sp := fun vs H Q _ => ∃ (p : Addr) (r : RdD), vs = [.ref p] ∧ RdAt K A H p r ∧ 1 ≤ r.m ∧ r.m ≤ 50 ∧ 2 * r.m ≤ r.tu ∧ r.tu ≤ 200 ∧ 1 ≤ r.lo ∧ r.lo ≤ 3 ∧ 1 ≤ r.qu ∧ r.qu ≤ 500 ∧
  (r.rs.length = 1 → Q .non H) ∧ (r.rs.length ≠ 1 → ∀ q H', Ext H H' → LullAt A H' q r.m r.tu r.lo r.qu → Q (.ref q) H')
theorem bD_yes {n a b : Int} (h1 : a ≤ n) (h2 : n ≤ b) : betD (.int n) a b = true := by
  rw [bet_int, decide_eq_true h1, decide_eq_true h2]
  rfl
theorem lullDue_ok {d t l q : Int} (d1 : 1 ≤ d) (d2 : d ≤ 50) (t1 : 2 * d ≤ t) (t2 : t ≤ 200) (l1 : 1 ≤ l) (l2 : l ≤ 3) (q1 : 1 ≤ q) (q2 : q ≤ 500) : lullDue (.int d) (.int t) (.int l) (.int q) = none := by
  rw [lullDue_yes (bD_yes d1 d2)]
  unfold lullDue2 quietDue
  rw [bD_yes t1 t2, bD_yes l1 l2, bD_yes q1 q2]
  rfl
theorem ok_lullOf {f : Addr} {fd : FuncData} (F : Fun K "lull_of" "lull_of" s_lull_of f fd) (T : Txt K mg A) (O_Lull : OwnC P w K mg base (L2.CX P w) "Lull" A.Lull 5 pm_Lull_init (spLullInit K A)) : FnOk P w K mg base CX0 7 f fd pm_lull_of (spLullOf K A) := by
  refine F.ok sc_lull_of (fun vs H Q E h => ?_) (fun cdv A' outer s H vs Q E hr h => ?_)
  · obtain ⟨_, _, rfl, _⟩ := h
    rfl
  · obtain ⟨p, r, rfl, ⟨wp, ⟨dx, Tp, hp, hT⟩, hw⟩, m1, m2, t1, t2, l1, l2, q1, q2, k1, k2⟩ := h
    refine ⟨_, pss_cons (ps_if (pt_cmpR op_eq (pe_callB call_len_seq (by rfl) T.n_len (by decide +kernel) (pa_cons (pe_fld (pv 0) rfl) pa_nil)) (pe_int) (nomark _)) (pss_one (ps_ret (pe_non))) (pss_nil))
      (pss_one (ps_ret (pe_new O_Lull (hr.mono (by decide)) passL (pa_cons (pe_fld (pe_fld (pv 0) rfl) rfl) (pa_cons (pe_fld (pv 0) rfl) (pa_cons (pe_fld (pv 0) rfl) (pa_cons (pe_fld (pv 0) rfl) pa_nil))))))), ?_⟩
    obtain ⟨dw, Tw, ws, hwp, _⟩ := id hw
    refine ⟨_, rfl, p, A.Road, dx, _, _, rfl, hp, T.Road.cl, T.r_rows, rfl, Tp, _, rfl, .inr hT, rfl, _, rfl, ?_⟩
    rw [dvi, List.length_map]
    by_cases h : (r.rs.length : Int) = 1
    · rw [decide_eq_true h]
      exact iteT (k1 (by omega))
    · rw [decide_eq_false h]
      refine iteF ⟨_, rfl, p, A.Road, dx, _, _, rfl, hp, T.Road.cl, T.r_way, rfl, wp, A.Way, dw, _, _, rfl, hwp, T.Way.cl, T.w_most, rfl, _, rfl, p, A.Road, dx, _, _, rfl, hp, T.Road.cl, T.r_turn, rfl, _, rfl, p, A.Road, dx, _, _, rfl, hp, T.Road.cl, T.r_losses, rfl, _, rfl, p, A.Road, dx, _, _, rfl, hp, T.Road.cl, T.r_quiet, rfl, fun x0 dx0 hx0 hdx hne => ?_⟩
      have e3 := (Ext.upd (o := .own x0) hdx).upd' (o := .ins A.Lull dx0 []) (by rw [upd_ne hne.symm]; exact hx0)
      refine ⟨x0, dx0, _, _, _, _, _, _, _, _, rfl, upd_same, .int r.m, .int r.tu, .int r.lo, .int r.qu, fun s hs => ?_, fun di ti li qi e1 e2 e3' e4 _ H' hl hB => ⟨rfl, ?_⟩⟩
      · rw [lullDue_ok m1 m2 t1 t2 l1 l2 q1 q2] at hs
        cases hs
      · cases e1
        cases e2
        cases e3'
        cases e4
        exact k2 (by omega) x0 H' (fun a u h => hB a u (ne_of_none h hx0) (e3 a u h)) hl
end
end K29

set_option Elab.async false
set_option maxRecDepth 100000
set_option maxHeartbeats 4000000
namespace K29
open PySem PySem.Spec PyProof.Rows L2
theorem get_int {S : List Int} {i : Nat} (h : i < S.length) : (S.map V.int)[i]? = some (.int (S.getD i 0)) := by
  rw [List.getElem?_map, List.getD_eq_getElem?_getD, List.getElem?_eq_getElem h]
  rfl
/-! ### what is drawn by -/
def PoolD (H : Hp) (st : Addr) : Prop := ∃ a b : Int, H st = some (.lst [.int a, .int b]) ∧ 0 ≤ b ∧ b < 2147483647
def ExtM (st : Addr) (H H' : Hp) : Prop := ∀ x o, x ≠ st → H x = some o → H' x = some o
theorem ExtM.rfl' {st : Addr} {H : Hp} : ExtM st H H := fun _ _ _ h => h
theorem ExtM.trans {st : Addr} {H H1 H2 : Hp} (a : ExtM st H H1) (c : ExtM st H1 H2) : ExtM st H H2 := fun x o h e => c x o h (a x o h e)
theorem Ext.m {st : Addr} {H H' : Hp} (h : Ext H H') : ExtM st H H' := fun x o _ e => h x o e
theorem PoolD.ext {st : Addr} {H H' : Hp} (h : PoolD H st) (e : Ext H H') : PoolD H' st := by
  obtain ⟨a, b, hs, h⟩ := h
  exact ⟨a, b, e _ _ hs, h⟩
theorem PoolD.new {st l : Addr} {H : Hp} (h : PoolD H st) (hl : H l = none) : l ≠ st := by
  obtain ⟨a, b, hs, _⟩ := h
  exact (ne_of_none hs hl).symm
theorem ExtM.none {st t : Addr} {H H' : Hp} (e : ExtM st H H') (h1 : t ≠ st) (h : H' t = none) : H t = none := by
  cases z : H t with
  | none => rfl
  | some o =>
    rw [e t o h1 z] at h
    cases h
theorem mut1 {st : Addr} (o : HO) (H1 : Hp) : ExtM st H1 (upd H1 st o) := fun x u hx h => by
  rw [upd_ne hx]
  exact h
section
variable {P : Program} {w : World} {K : PySem.W.Frag} {mg : Str → Option Value} {base : Heap} {A : Ad}
def spPool (K : PySem.W.Frag) : Sp := fun vs H Q _ => ∃ (sc : Addr) (ns : List Int) (k : Nat), vs = [.ref sc, .int (k : Int)] ∧ SqL K H sc (ns.map V.int) ∧ ns.length ≤ 63 ∧ k ≤ 100 ∧ ∀ st H', Ext H H' → H st = none → PoolD H' st → Q (.ref st) H'
theorem ok_pool {f : Addr} {fd : FuncData} (F : Fun K "_law_pool" "_law_pool" s__law_pool f fd) (T : Txt K mg A) : FnOk P w K mg base CX0 1 f fd pm__law_pool (spPool K) := by
  refine F.ok sc__law_pool (fun vs H Q E h => ?_) (fun cdv A' outer s H vs Q E hr h => ?_)
  · obtain ⟨_, _, _, rfl, _⟩ := h
    rfl
  · obtain ⟨sc, ns, k, rfl, hs, hl, hk, q⟩ := h
    refine ⟨_, pss_cons (ps_set (i := 2) sc__law_pool.nd rfl (Or.inl rfl) (pe_int))
      (Evl.pss_cut (ps_if (pt_cmpR op_lt (pv 1) (pe_callB call_len_seq (by rfl) T.n_len (by decide +kernel) (pa_cons (pv 0) pa_nil)) (nomark _)) (pss_one (ps_set (i := 2) sc__law_pool.nd rfl (Or.inl rfl) (pe_ix ix_list (pv 0) (pv 1) (fun _ _ => rfl)))) (pss_nil))
      (pss_cons (ps_set (i := 3) sc__law_pool.nd rfl (Or.inl rfl) (pe_callB (call_max2 rfl) (by rfl) T.n_max (by decide +kernel) (pa_cons (pe_callTy call_int1 (by rfl) T.n_int (by decide +kernel) (pa_cons (pv 2) pa_nil)) (pa_cons (pe_callTy call_int1 (by rfl) T.n_int (by decide +kernel) (pa_cons (pe_op op_sub (pe_un un_neg (pe_int)) (pv 2)) pa_nil)) pa_nil))))
      (pss_cons (ps_set (i := 4) sc__law_pool.nd rfl (Or.inl rfl) (pe_op op_mod (pe_callTy call_int1 (by rfl) T.n_int (by decide +kernel) (pa_cons (pe_op op_mul (pe_op op_add (pe_op op_add (pe_op op_add (pe_op op_mod (pe_callTy call_int1 (by rfl) T.n_int (by decide +kernel) (pa_cons (pv 3) pa_nil)) (pe_int)) (pe_op op_mul (pe_op op_mul (pe_int) (pv 1)) (pv 1))) (pe_op op_mul (pe_int) (pv 1))) (pe_int)) (pe_int)) pa_nil)) (pe_int)))
      (pss_one (ps_ret (pe_lst (pa_cons (pe_op op_mul (pv 3) (pe_callTy call_int1 (by rfl) T.n_int (by decide +kernel) (pa_cons (pe_cmpR op_ge (pv 3) (pe_op op_pow (pe_int) (pe_int)) (nomark _)) pa_nil))) (pa_cons (pv 4) pa_nil)))))))), ?_⟩
    refine ⟨fun σ H' => ∃ c : Int, σ = [some (.ref sc), some (.int (k : Int)), some (.int c), Option.none, Option.none] ∧ H' = H, ?_, ?_⟩
    · refine ⟨_, rfl, _, rfl, sc, _, rfl, .inl hs, _, _, rfl, rfl, _, rfl, ?_⟩
      rw [List.length_map]
      by_cases hkl : (k : Int) < (ns.length : Int)
      · rw [decide_eq_true hkl]
        refine iteT ⟨_, rfl, _, rfl, sc, _, _, .int (ns.getD k 0), rfl, rfl, hs, atI_nat (get_int (by omega)), _, rfl, rfl⟩
      · rw [decide_eq_false hkl]
        exact iteF ⟨_, rfl, rfl⟩
    · rintro σ H' ⟨c, rfl, rfl⟩
      refine ⟨_, rfl, .inl ⟨_, rfl, _, rfl, _, rfl, _, _, rfl, rfl, .inl ⟨_, rfl, _, _, rfl, ?_⟩⟩⟩
      dsimp only
      generalize (if -1 - c > c then -1 - c else c) = big
      refine ⟨_, rfl, .inl ⟨_, rfl, _, _, rfl, rfl, (show (0 : Int) < 2147483629 by decide), _, rfl, _, _, rfl, rfl, .inl ⟨by decide, by decide⟩, _, rfl, _, _, rfl, rfl, .inl ⟨by omega, by omega⟩, _, _, rfl, rfl, _, rfl, _, _, rfl, rfl, .inl ⟨by decide, by decide⟩, _, _, rfl, rfl, _, _, rfl, rfl, _, _, rfl, rfl, .inr ⟨by decide, by decide⟩, .inl ⟨_, rfl, _, _, rfl, rfl, (show (0 : Int) < 2147483647 by decide), ?_⟩⟩⟩
      refine ⟨_, rfl, _, rfl, _, _, rfl, rfl, ⟨by decide, by decide, by decide⟩, _, _, rfl, rfl, .inr ⟨_, rfl, _, _, rfl, rfl, .inr ?_, _, rfl, by show 2 ≤ sizeLine; decide, fun st hst => ?_⟩⟩
      · split <;> decide
      · exact q st _ (Ext.upd hst) hst ⟨_, _, upd_same, Int.emod_nonneg _ (by decide), Int.emod_lt_of_pos _ (by decide)⟩
def spTake : Sp := fun vs H Q _ => ∃ (st : Addr) (B : Int), vs = [.ref st, .int B] ∧ PoolD H st ∧ 1 ≤ B ∧ B ≤ 100000 ∧ ∀ n H', 0 ≤ n → n < B → PoolD H' st → ExtM st H H' → Q (.int n) H'
theorem ok_take {f : Addr} {fd : FuncData} (F : Fun K "_law_take" "_law_take" s__law_take f fd) (T : Txt K mg A) : FnOk P w K mg base CX0 1 f fd pm__law_take spTake := by
  refine F.ok sc__law_take (fun vs H Q E h => ?_) (fun cdv A' outer s H vs Q E hr h => ?_)
  · obtain ⟨_, _, rfl, _⟩ := h
    rfl
  · obtain ⟨st, B, rfl, ⟨a, b, hst, b0, b1⟩, hB, hB2, k⟩ := h
    refine ⟨_, pss_cons (ps_if (pt_cmpR op_gt (pe_ix ix_list (pv 0) (pe_int) (fun _ _ => rfl)) (pe_int) (nomark _)) (pss_cons (ps_set (i := 2) sc__law_take.nd rfl (Or.inl rfl) (pe_op op_modN (pe_callTy call_int1 (by rfl) T.n_int (by decide +kernel) (pa_cons (pe_ix ix_list (pv 0) (pe_int) (fun _ _ => rfl)) pa_nil)) (pv 1)))
      (pss_cons (ps_asg (pe_op op_fdivN (pe_ix ix_list (pv 0) (pe_int) (fun _ _ => rfl)) (pv 1)) (pg_sub (pv 0) (pe_int) set_list))
      (pss_one (ps_ret (pv 2))))) (pss_nil))
      (pss_cons (ps_asg (pe_op op_mod (pe_callTy call_int1 (by rfl) T.n_int (by decide +kernel) (pa_cons (pe_op op_add (pe_op op_mul (pe_ix ix_list (pv 0) (pe_int) (fun _ _ => rfl)) (pe_int)) (pe_int)) pa_nil)) (pe_int)) (pg_sub (pv 0) (pe_int) set_list))
      (pss_one (ps_ret (pe_op op_modN (pe_callTy call_int1 (by rfl) T.n_int (by decide +kernel) (pa_cons (pe_op op_fdiv (pe_op op_mod (pe_callTy call_int1 (by rfl) T.n_int (by decide +kernel) (pa_cons (pe_op op_mul (pe_ix ix_list (pv 0) (pe_int) (fun _ _ => rfl)) (pe_ix ix_list (pv 0) (pe_int) (fun _ _ => rfl))) pa_nil)) (pe_int)) (pe_int)) pa_nil)) (pv 1))))), ?_⟩
    refine ⟨_, rfl, st, _, 0, .int a, rfl, rfl, SqL.of hst, rfl, _, _, rfl, rfl, _, rfl, ?_⟩
    by_cases ha : a > 0
    · rw [decide_eq_true ha]
      refine iteT ⟨_, rfl, st, _, 0, .int a, rfl, rfl, SqL.of hst, rfl, .inl ⟨_, rfl, _, rfl, _, _, rfl, rfl, (by show B ≠ 0; omega), ?_⟩⟩
      refine ⟨_, rfl, st, _, 0, .int a, rfl, rfl, SqL.of hst, rfl, _, rfl, _, _, rfl, rfl, ⟨by omega, by omega⟩, _, rfl, st, _, 0, 0, rfl, rfl, hst, rfl, ?_⟩
      exact ⟨_, rfl, k _ _ (Int.fmod_nonneg_of_pos _ (by omega)) (Int.fmod_lt_of_pos _ (by omega)) ⟨_, _, upd_same, b0, b1⟩ (mut1 _ _)⟩
    · rw [decide_eq_false ha]
      refine iteF ?_
      refine ⟨_, rfl, st, _, 1, .int b, rfl, rfl, SqL.of hst, rfl, _, _, rfl, rfl, .inr ⟨by decide, by decide⟩, _, _, rfl, rfl, .inl ⟨_, rfl, _, _, rfl, rfl, (show (0 : Int) < 2147483647 by decide), ?_⟩⟩
      refine ⟨_, rfl, st, _, 1, 1, rfl, rfl, hst, rfl, ?_⟩
      have c0 : 0 ≤ (b * 39373 + 7) % 2147483647 := Int.emod_nonneg _ (by decide)
      have c1 : (b * 39373 + 7) % 2147483647 < 2147483647 := Int.emod_lt_of_pos _ (by decide)
      generalize hz : (b * 39373 + 7) % 2147483647 = c at c0 c1
      have hs1 : upd H st (.lst ([V.int a, .int b].set 1 (.int ((b * 39373 + 7) % 2147483647)))) st = some (.lst [.int a, .int c]) := by rw [hz, upd_same]; rfl
      have x1 : ExtM st H (upd H st (.lst ([V.int a, .int b].set 1 (.int ((b * 39373 + 7) % 2147483647))))) := mut1 _ _
      generalize upd H st (.lst ([V.int a, .int b].set 1 (.int ((b * 39373 + 7) % 2147483647)))) = H1 at hs1 x1 ⊢
      refine ⟨_, rfl, st, _, 1, .int c, rfl, rfl, SqL.of hs1, rfl, _, rfl, st, _, 1, .int c, rfl, rfl, SqL.of hs1, rfl, _, _, rfl, rfl, .inl ⟨by omega, by omega⟩, .inl ⟨_, rfl, _, _, rfl, rfl, (show (0 : Int) < 2147483629 by decide), ?_⟩⟩
      refine ⟨_, _, rfl, rfl, ⟨by decide, by decide⟩, .inl ⟨_, rfl, _, rfl, _, _, rfl, rfl, (by show B ≠ 0; omega), ?_⟩⟩
      exact k _ _ (Int.fmod_nonneg_of_pos _ (by omega)) (Int.fmod_lt_of_pos _ (by omega)) ⟨_, _, hs1, c0, c1⟩ x1
def spOne : Sp := fun vs H Q _ => ∃ (st l : Addr) (xs : List V), vs = [.ref st, .ref l] ∧ PoolD H st ∧ H l = some (.lst xs) ∧ l ≠ st ∧ 1 ≤ xs.length ∧ xs.length ≤ 1000 ∧ ∀ (i : Nat) (v : V) H', xs[i]? = some v → PoolD H' st → ExtM st H H' → Q v H'
theorem ok_one {f : Addr} {fd : FuncData} (F : Fun K "_law_one" "_law_one" s__law_one f fd) (T : Txt K mg A) (O__law_take : Own P w K mg base CX0 "_law_take" 1 pm__law_take spTake) : FnOk P w K mg base CX0 2 f fd pm__law_one spOne := by
  refine F.ok sc__law_one (fun vs H Q E h => ?_) (fun cdv A' outer s H vs Q E hr h => ?_)
  · obtain ⟨_, _, _, rfl, _⟩ := h
    rfl
  · obtain ⟨st, l, xs, rfl, hst, hl, hne, h1, h2, k⟩ := h
    refine ⟨_, pss_one (ps_ret (pe_ix ix_list (pv 1) (pe_own O__law_take (hr.mono (by decide)) pass0 (pa_cons (pv 0) (pa_cons (pe_callB call_len_seq (by rfl) T.n_len (by decide +kernel) (pa_cons (pv 1) pa_nil)) pa_nil))) (fun _ _ => rfl))), ?_⟩
    refine ⟨_, rfl, _, rfl, _, rfl, l, xs, rfl, .inl (SqL.of hl), st, _, rfl, hst, by omega, by omega, fun n H1 n0 n1 st1 x1 => ?_⟩
    obtain ⟨i, rfl⟩ : ∃ i : Nat, n = (i : Int) := ⟨n.toNat, by omega⟩
    obtain ⟨v, hv⟩ : ∃ v, xs[i]? = some v := ⟨_, List.getElem?_eq_getElem (by omega)⟩
    exact ⟨l, xs, _, v, rfl, rfl, SqL.of (x1 l _ hne hl), atI_nat hv, k i v H1 hv st1 x1⟩
/-- what is put in -/
def oddL : List V := [.int 0, .int (-1), .int 51, .int 201, .int 4, .int 501, .int 1, .int 50, .int 3, .int 200, .bl true, .str "1", .non, .int (10 ^ 19)]
theorem odd_fl : ∀ v ∈ oddL, Fl v := fun v hv => by
  simp only [oddL, List.mem_cons, List.not_mem_nil, or_false] at hv
  rcases hv with rfl | rfl | rfl | rfl | rfl | rfl | rfl | rfl | rfl | rfl | rfl | rfl | rfl | rfl
  all_goals first | trivial | (show PySem.PyData.canLay0 (.str "1") = true; decide +kernel)
def spSpoilt (K : PySem.W.Frag) : Sp := fun vs H Q _ => ∃ (st q : Addr) (xs : List V), vs = [.ref st, .ref q] ∧ PoolD H st ∧ SqL K H q xs ∧ 1 ≤ xs.length ∧ xs.length ≤ 10 ∧
  ∀ r ys H', H' r = some (.lst ys) → ys.length = xs.length → (∀ (i : Nat) (y : V), ys[i]? = some y → xs[i]? = some y ∨ Fl y) → r ≠ st → H r = none → PoolD H' st → ExtM st H H' → Q (.ref r) H'
end
end K29

set_option Elab.async false
set_option maxRecDepth 100000
set_option maxHeartbeats 4000000
namespace K29
open PySem PySem.Spec PyProof.Rows L2
structure PlD where
  (o l d : Int) (bs : List Bx) (la tu lo : Int) (rs : List Int) (qu pe : Int)
structure PlOk (r : PlD) : Prop where
  o1 : 0 ≤ r.o
  o2 : r.o ≤ 1000
  l1 : 1 ≤ r.l
  ld : r.l ≤ r.d
  d2 : r.d ≤ 45
  bx : ∀ q ∈ r.bs, bxOk q r.l r.d
  b3 : r.bs.length ≤ 3
  a1 : r.o + 2 * r.l ≤ r.la
  a2 : r.la ≤ r.o + 2 * r.d
  t1 : 2 * r.d ≤ r.tu
  t2 : r.tu ≤ 190
  s1 : 1 ≤ r.lo
  s2 : r.lo ≤ 3
  r1 : 1 ≤ r.rs.length
  r3 : r.rs.length ≤ 3
  rr : ∀ x ∈ r.rs, 1 ≤ x ∧ x ≤ 100
  q1 : 1 ≤ r.qu
  q2 : r.qu ≤ 400
  p1 : 1 ≤ r.pe
  p2 : r.pe ≤ 190
theorem dps_snoc {K : PySem.W.Frag} {H : Hp} {v : V} {d : PyData} (hv : Dp K H v d) : ∀ {vs : List V} {ds : List PyData}, DpAll K H vs ds → DpAll K H (vs ++ [v]) (ds ++ [d])
  | [], _, h => by cases h; exact .cons hv .nil
  | _ :: _, _, h => by
    cases h with
    | cons a b => exact .cons a (dps_snoc hv b)
/-- boxes in a list: tuples of four -/
def BxAt (H : Hp) : List V → List Bx → Prop
  | [], [] => True
  | v :: vs, q :: qs => (∃ t, v = .ref t ∧ H t = some (.tup [.int q.1, .int q.2.1, .int q.2.2.1, .int q.2.2.2])) ∧ BxAt H vs qs
  | _, _ => False
theorem BxAt.to {H H' : Hp} (e : ∀ t xs, H t = some (.tup xs) → H' t = some (.tup xs)) : ∀ {vs : List V} {qs : List Bx}, BxAt H vs qs → BxAt H' vs qs
  | [], [], _ => trivial
  | [], _ :: _, h => h.elim
  | _ :: _, [], h => h.elim
  | _ :: _, _ :: _, ⟨⟨t, h1, h2⟩, h⟩ => ⟨⟨t, h1, e _ _ h2⟩, BxAt.to e h⟩
theorem BxAt.snoc {H : Hp} {t : Addr} {q : Bx} (ht : H t = some (.tup [.int q.1, .int q.2.1, .int q.2.2.1, .int q.2.2.2])) : ∀ {vs : List V} {qs : List Bx}, BxAt H vs qs → BxAt H (vs ++ [.ref t]) (qs ++ [q])
  | [], [], _ => ⟨⟨t, rfl, ht⟩, trivial⟩
  | [], _ :: _, h => h.elim
  | _ :: _, [], h => h.elim
  | _ :: _, _ :: _, ⟨a, h⟩ => ⟨a, BxAt.snoc ht h⟩
theorem BxAt.len {H : Hp} : ∀ {vs : List V} {qs : List Bx}, BxAt H vs qs → vs.length = qs.length
  | [], [], _ => rfl
  | [], _ :: _, h => h.elim
  | _ :: _, [], h => h.elim
  | _ :: _, _ :: _, ⟨_, h⟩ => by rw [List.length_cons, List.length_cons, BxAt.len h]
theorem BxAt.dp {K : PySem.W.Frag} {H : Hp} : ∀ {vs : List V} {qs : List Bx}, BxAt H vs qs → DpAll K H vs (qs.map bxD)
  | [], [], _ => .nil
  | [], _ :: _, h => h.elim
  | _ :: _, [], h => h.elim
  | _ :: _, q :: _, ⟨⟨t, h1, h2⟩, h⟩ => by
    rw [h1]
    exact .cons (.tup (SqT.of h2) (.cons (.int _) (.cons (.int _) (.cons (.int _) (.cons (.int _) .nil))))) (BxAt.dp h)
/-- what is drawn: the list at p, its boxes at bx, its rows at ro -/
structure Drawn (H : Hp) (p bx ro : Addr) (xs : List V) (r : PlD) : Prop where
  p : H p = some (.lst [.int r.o, .int r.l, .int r.d, .ref bx, .int r.la, .int r.tu, .int r.lo, .ref ro, .int r.qu, .int r.pe])
  bx : H bx = some (.lst xs)
  xs : BxAt H xs r.bs
  ro : H ro = some (.lst (r.rs.map V.int))
section
variable {P : Program} {w : World} {K : PySem.W.Frag} {mg : Str → Option Value} {base : Heap} {A : Ad}
theorem mutTup {r : Addr} {H : Hp} {xs ys : List V} (h : H r = some (.lst xs)) : ∀ t zs, H t = some (.tup zs) → upd H r (.lst ys) t = some (.tup zs) := fun t zs ht => by
  rw [upd_ne (fun z => by rw [z, h] at ht; cases ht)]
  exact ht
theorem poolTup {st : Addr} {H H' : Hp} (h : PoolD H st) (e : ExtM st H H') : ∀ t zs, H t = some (.tup zs) → H' t = some (.tup zs) := fun t zs ht => e t _ (fun z => by
  obtain ⟨a, b, hs, _⟩ := h
  rw [z, hs] at ht
  cases ht) ht
def spRoadDraw : Sp := fun vs H Q _ => ∃ (st : Addr), vs = [.ref st, .int 60] ∧ PoolD H st ∧ ∀ (p bx ro : Addr) (xs : List V) (r : PlD) H', Drawn H' p bx ro xs r → PlOk r → p ≠ st → bx ≠ st → ro ≠ st → H p = none → H bx = none → H ro = none → PoolD H' st → ExtM st H H' → Q (.ref p) H'
theorem ok_road {f : Addr} {fd : FuncData} (F : Fun K "_law_road" "_law_road" s__law_road f fd) (T : Txt K mg A) (O__law_take : Own P w K mg base CX0 "_law_take" 1 pm__law_take spTake) : FnOk P w K mg base CX0 2 f fd pm__law_road spRoadDraw := by
  refine F.ok sc__law_road (fun vs H Q E h => ?_) (fun cdv A' outer s H vs Q E hr h => ?_)
  · obtain ⟨_, rfl, _⟩ := h
    rfl
  · obtain ⟨st, rfl, st0, k⟩ := h
    refine ⟨_, pss_cons (ps_par (i := 2) (j := 3) (by rfl) sc__law_road.nd rfl rfl (by decide) rfl rfl (pa_cons (pe_own O__law_take (hr.mono (by decide)) pass0 (pa_cons (pv 0) (pa_cons (pe_int) pa_nil))) (pa_cons (pe_op op_add (pe_int) (pe_own O__law_take (hr.mono (by decide)) pass0 (pa_cons (pv 0) (pa_cons (pe_int) pa_nil)))) pa_nil)) (by rfl))
      (pss_cons (ps_set (i := 4) sc__law_road.nd rfl (Or.inl rfl) (pe_op op_add (pv 3) (pe_own O__law_take (hr.mono (by decide)) pass0 (pa_cons (pv 0) (pa_cons (pe_int) pa_nil)))))
      (pss_cons (ps_set (i := 5) sc__law_road.nd rfl (Or.inl rfl) (pe_lst (pa_nil)))
      (pss_cons (ps_for PassesOwn.never rfl (pi_range1 rfl T.n_range (pa_cons (pe_own O__law_take (hr.mono (by decide)) pass0 (pa_cons (pv 0) (pa_cons (pe_int) pa_nil))) pa_nil)) (pg_name (i := 6) sc__law_road.nd rfl (Or.inl rfl)) (pss_cons (ps_set (i := 7) sc__law_road.nd rfl (Or.inl rfl) (pe_own O__law_take (hr.mono (by decide)) pass0 (pa_cons (pv 0) (pa_cons (pe_op op_add (pv 3) (pe_int)) pa_nil))))
      (pss_cons (ps_set (i := 8) sc__law_road.nd rfl (Or.inl rfl) (pe_op op_add (pv 7) (pe_own O__law_take (hr.mono (by decide)) pass0 (pa_cons (pv 0) (pa_cons (pe_op op_add (pe_op op_sub (pv 4) (pv 7)) (pe_int)) pa_nil)))))
      (pss_cons (ps_set (i := 9) sc__law_road.nd rfl (Or.inl rfl) (pe_op op_add (pe_int) (pe_own O__law_take (hr.mono (by decide)) pass0 (pa_cons (pv 0) (pa_cons (pv 1) pa_nil)))))
      (pss_one (ps_expr (pe_bm PySem.F.plainAttrs_list PySem.F.slot_list_append PySem.F.type_list_append mt_append (pv 5) (pa_cons (pe_tup (pa_cons (pv 7) (pa_cons (pv 8) (pa_cons (pv 9) (pa_cons (pe_op op_add (pv 9) (pe_own O__law_take (hr.mono (by decide)) pass0 (pa_cons (pv 0) (pa_cons (pe_int) pa_nil)))) pa_nil))))) pa_nil))))))))
      (pss_cons (ps_set (i := 10) sc__law_road.nd rfl (Or.inl rfl) (pe_op op_add (pe_op op_add (pv 2) (pe_op op_mul (pe_int) (pv 3))) (pe_own O__law_take (hr.mono (by decide)) pass0 (pa_cons (pv 0) (pa_cons (pe_op op_add (pe_op op_mul (pe_int) (pe_op op_sub (pv 4) (pv 3))) (pe_int)) pa_nil)))))
      (pss_cons (ps_setLc (i := 11) (own := [("_law_turn", 6)]) (g := gName 6) (by rfl) sc__law_road.nd rfl rfl (sw_true rfl rfl rfl (by decide +kernel)) (pi_range1 rfl T.n_range (pa_cons (pe_op op_add (pe_int) (pe_own O__law_take (hr.mono (by decide)) pass0 (pa_cons (pv 0) (pa_cons (pe_int) pa_nil)))) pa_nil)) (blkOk_by (own := [("_law_turn", 6)]) (N := nm__law_road) (sc := defScope s__law_road) (by decide +kernel)) (fun _ _ _ _ _ => pg_name (i := 6) sc__law_road.nd rfl (Or.inl rfl)) (fun s1 H1 C1 cl fp => pts_nil) (fun s1 H1 C1 cl fp => pe_op op_add (pe_int) (pe_own O__law_take (hr.mono (by decide)) pass0 (pa_cons (pv 0) (pa_cons (pe_int) pa_nil)))))
      (pss_one (ps_ret (pe_lst (pa_cons (pv 2) (pa_cons (pv 3) (pa_cons (pv 4) (pa_cons (pv 5) (pa_cons (pv 10) (pa_cons (pe_op op_add (pe_op op_mul (pe_int) (pv 4)) (pe_own O__law_take (hr.mono (by decide)) pass0 (pa_cons (pv 0) (pa_cons (pe_int) pa_nil)))) (pa_cons (pe_op op_add (pe_int) (pe_own O__law_take (hr.mono (by decide)) pass0 (pa_cons (pv 0) (pa_cons (pe_int) pa_nil)))) (pa_cons (pv 11) (pa_cons (pe_op op_add (pe_int) (pe_own O__law_take (hr.mono (by decide)) pass0 (pa_cons (pv 0) (pa_cons (pe_int) pa_nil)))) (pa_cons (pe_op op_add (pe_int) (pe_own O__law_take (hr.mono (by decide)) pass0 (pa_cons (pv 0) (pa_cons (pe_int) pa_nil)))) pa_nil)))))))))))))))))), ?_⟩
    refine ⟨_, rfl, st, 9, rfl, st0, by decide, by decide, fun n1 H1 n10 n11 st1 x1 => ⟨_, rfl, st, 3, rfl, st1, by decide, by decide, fun n2 H2 n20 n21 st2 x2 => ⟨_, _, rfl, rfl, _, _, rfl, ?_⟩⟩⟩
    refine ⟨_, rfl, _, rfl, st, 3, rfl, st2, by decide, by decide, fun n3 H3 n30 n31 st3 x3 => ⟨_, _, rfl, rfl, by show 0 ≤ sizeLine; decide, fun bx hbx => ?_⟩⟩
    have e4 := Ext.upd (o := .lst []) hbx
    have nbx := st3.new hbx
    have x03 := (x1.trans x2).trans x3
    have hbx0 := ExtM.none x03 nbx hbx
    refine ⟨_, rfl, st, 4, rfl, st3.ext e4, by decide, by decide, fun n4 H5 n40 n41 st5 x5 => ⟨n4, rfl, by omega, by omega, ?_⟩⟩
    refine for_range (fun i σ' H' => ∃ (xs : List V) (bs : List Bx) (o6 o7 o8 o9 : Option V), σ' = [some (.ref st), some (.int 60), some (.int n1), some (.int (1 + n2)), some (.int (1 + n2 + n3)), some (.ref bx), o6, o7, o8, o9, Option.none, Option.none] ∧ H' bx = some (.lst xs) ∧ BxAt H' xs bs ∧ bs.length = i ∧ (∀ q ∈ bs, bxOk q (1 + n2) (1 + n2 + n3)) ∧ PoolD H' st ∧ ExtM st H H')
      ⟨[], [], _, _, _, _, rfl, x5 _ _ nbx upd_same, trivial, rfl, (fun _ h => nomatch h), st5, (x03.trans (Ext.m e4)).trans x5⟩ (fun i σ' H' hi pv => ?_) (fun σ' H' pv => ?_)
    · obtain ⟨xs, bs, o6, o7, o8, o9, rfl, hb, hxs, hlb, hok, stp, xp⟩ := pv
      refine ⟨_, rfl, _, rfl, _, _, rfl, rfl, st, _, rfl, stp, by omega, by omega, fun m1 J1 m10 m11 s1 y1 => ?_⟩
      refine ⟨_, rfl, _, rfl, _, rfl, _, rfl, _, _, rfl, rfl, _, _, rfl, rfl, st, _, rfl, s1, by omega, by omega, fun m2 J2 m20 m21 s2 y2 => ⟨_, _, rfl, rfl, ?_⟩⟩
      refine ⟨_, rfl, _, rfl, st, 60, rfl, s2, by decide, by decide, fun m3 J3 m30 m31 s3 y3 => ⟨_, _, rfl, rfl, ?_⟩⟩
      have y := (y1.trans y2).trans y3
      have hb3 := y _ _ nbx hb
      refine ⟨_, rfl, .inl ⟨rfl, _, SqL.of hb3⟩, _, rfl, _, rfl, _, rfl, _, rfl, _, rfl, st, 9, rfl, s3, by decide, by decide, fun m4 J4 m40 m41 s4 y4 => ⟨_, _, rfl, rfl, by show 4 ≤ sizeLine; decide, fun t ht => ?_⟩⟩
      have et := Ext.upd (o := .tup [.int m1, .int (m1 + m2), .int (1 + m3), .int (1 + m3 + m4)]) ht
      have hb5 := et _ _ (y4 _ _ nbx hb3)
      refine ⟨bx, _, _, rfl, rfl, hb5, small1000 (by have := hxs.len; omega), ?_⟩
      refine ⟨xs ++ [.ref t], bs ++ [(m1, m1 + m2, 1 + m3, 1 + m3 + m4)], _, _, _, _, rfl, upd_same, ?_, by rw [List.length_append, hlb]; rfl, fun q hq => ?_, ?_, ?_⟩
      · refine BxAt.snoc ?_ (BxAt.to (fun t zs h => mutTup hb5 _ _ (et _ _ (poolTup s3 y4 _ _ (poolTup s2 y3 _ _ (poolTup s1 y2 _ _ (poolTup stp y1 _ _ h)))))) hxs)
        exact mutTup hb5 _ _ upd_same
      · rcases List.mem_append.mp hq with h | h
        · exact hok q h
        · rw [List.mem_singleton.mp h]
          refine ⟨by show 0 ≤ m1; omega, by show m1 ≤ m1 + m2; omega, by show m1 + m2 ≤ 1 + n2 + n3; omega, by show m1 ≤ 1 + n2; omega, by show 1 ≤ 1 + m3; omega, by show 1 + m3 ≤ 1 + m3 + m4; omega, by show 1 + m3 + m4 ≤ 10000; omega⟩
      · obtain ⟨a, b, hs, hh⟩ := s4.ext et
        exact ⟨a, b, by rw [upd_ne nbx.symm]; exact hs, hh⟩
      · exact fun u o hu ho => by
          rw [upd_ne (fun z => by rw [z, hbx0] at ho; cases ho)]
          exact ((((xp.trans y).trans y4).trans (Ext.m et)) u o hu ho)
    · obtain ⟨xs, bs, o6, o7, o8, o9, rfl, hb, hxs, hlb, hok, stp, xp⟩ := pv
      refine ⟨_, rfl, _, rfl, _, _, rfl, rfl, .inl ⟨by decide, by decide⟩, _, _, rfl, rfl, _, rfl, _, rfl, _, rfl, _, _, rfl, rfl, _, _, rfl, rfl, .inl ⟨by decide, by decide⟩, _, _, rfl, rfl, st, _, rfl, stp, by omega, by omega, fun n5 J1 n50 n51 s1 y1 => ⟨_, _, rfl, rfl, ?_⟩⟩
      refine ⟨_, rfl, st, 3, rfl, s1, by decide, by decide, fun n6 J2 n60 n61 s2 y2 => ⟨_, _, rfl, rfl, _, rfl, by omega, by omega, fun D hD => ?_⟩⟩
      have nD := s2.new hD
      have xJ2 := (xp.trans y1).trans y2
      have hb2 := y2 _ _ nbx (y1 _ _ nbx hb)
      have hxs2 : BxAt J2 xs bs := BxAt.to (fun t zs h => poolTup s1 y2 _ _ (poolTup stp y1 _ _ h)) hxs
      have hD0 := ExtM.none xJ2 nD hD
      refine lc_range (fun m H' => ∃ rs : List Int, H' D = some (.lst (rs.map V.int)) ∧ rs.length = m ∧ (∀ x ∈ rs, 1 ≤ x ∧ x ≤ 100) ∧ PoolD H' st ∧ ExtM st J2 H') ⟨[], upd_same, rfl, (fun _ h => nomatch h), s2.ext (Ext.upd hD), Ext.m (Ext.upd hD)⟩ (fun m H' hm pv => ?_) (fun H' pv => ?_)
      · obtain ⟨rs, hr, hrl, hrr, sp, yp⟩ := pv
        refine ⟨rfl, ⟨_, rfl, st, 3, rfl, sp, by decide, by decide, fun n7 J3 n70 n71 s3 y3 => ⟨_, _, rfl, rfl, _, y3 _ _ nD hr, ?_, rs ++ [1 + n7], ?_, by rw [List.length_append, hrl]; rfl, fun x hx => ?_, ?_, ?_⟩⟩⟩
        · rw [List.length_map]
          exact small_sz (by omega)
        · rw [upd_same, List.map_append]
          rfl
        · rcases List.mem_append.mp hx with h | h
          · exact hrr x h
          · rw [List.mem_singleton.mp h]
            omega
        · obtain ⟨a, b, hs, hh⟩ := s3
          exact ⟨a, b, by rw [upd_ne nD.symm]; exact hs, hh⟩
        · exact fun u o hu ho => by
            rw [upd_ne (ne_of_none ho hD)]
            exact (yp.trans y3) u o hu ho
      · obtain ⟨rs, hr, hrl, hrr, sp, yp⟩ := pv
        have hb3 := yp _ _ nbx hb2
        have hxs3 : BxAt H' xs bs := BxAt.to (fun t zs h => poolTup s2 yp _ _ h) hxs2
        refine ⟨_, rfl, _, rfl, _, rfl, _, rfl, _, rfl, _, rfl, _, _, rfl, rfl, .inl ⟨by decide, by decide⟩, _, rfl, st, 9, rfl, sp, by decide, by decide, fun n8 K1 n80 n81 r1 z1 => ⟨_, _, rfl, rfl, _, rfl, st, 3, rfl, r1, by decide, by decide, fun n9 K2 n90 n91 r2 z2 => ⟨_, _, rfl, rfl, _, rfl, _, rfl, st, 24, rfl, r2, by decide, by decide, fun na K3 na0 na1 r3 z3 => ⟨_, _, rfl, rfl, _, rfl, st, 12, rfl, r3, by decide, by decide, fun nb K4 nb0 nb1 r4 z4 => ⟨_, _, rfl, rfl, by show 10 ≤ sizeLine; decide, fun p hp => ?_⟩⟩⟩⟩⟩
        have z := ((z1.trans z2).trans z3).trans z4
        have ep := Ext.upd (o := .lst [.int n1, .int (1 + n2), .int (1 + n2 + n3), .ref bx, .int (n1 + 2 * (1 + n2) + n5), .int (2 * (1 + n2 + n3) + n8), .int (1 + n9), .ref D, .int (1 + na), .int (1 + nb)]) hp
        have xK := (xJ2.trans yp).trans z
        have np := r4.new hp
        refine k p bx D xs ⟨n1, 1 + n2, 1 + n2 + n3, bs, n1 + 2 * (1 + n2) + n5, 2 * (1 + n2 + n3) + n8, 1 + n9, rs, 1 + na, 1 + nb⟩ _ ⟨upd_same, ep _ _ (z _ _ nbx hb3), BxAt.to (fun t zs h => ep _ _ (poolTup r3 z4 _ _ (poolTup r2 z3 _ _ (poolTup r1 z2 _ _ (poolTup sp z1 _ _ h))))) hxs3, ep _ _ (z _ _ nD hr)⟩
          ⟨n10, by show n1 ≤ 1000; omega, by show 1 ≤ 1 + n2; omega, by show 1 + n2 ≤ 1 + n2 + n3; omega, by show 1 + n2 + n3 ≤ 45; omega, hok, by show bs.length ≤ 3; omega, by show n1 + 2 * (1 + n2) ≤ n1 + 2 * (1 + n2) + n5; omega, by show n1 + 2 * (1 + n2) + n5 ≤ n1 + 2 * (1 + n2 + n3); omega, by show 2 * (1 + n2 + n3) ≤ 2 * (1 + n2 + n3) + n8; omega, by show 2 * (1 + n2 + n3) + n8 ≤ 190; omega, by show 1 ≤ 1 + n9; omega, by show 1 + n9 ≤ 3; omega, by show 1 ≤ rs.length; omega, by show rs.length ≤ 3; omega, hrr, by show 1 ≤ 1 + na; omega, by show 1 + na ≤ 400; omega, by show 1 ≤ 1 + nb; omega, by show 1 + nb ≤ 190; omega⟩
          np nbx nD (ExtM.none xK np hp) hbx0 hD0 (r4.ext ep) (xK.trans (Ext.m ep))
end
end K29

set_option Elab.async false
set_option maxRecDepth 100000
set_option maxHeartbeats 4000000
namespace K29
open PySem PySem.Spec PyProof.Rows L2
theorem rowsD_ok {rs : List Int} {x : PyData} (hx : itemsD x = some (rs.map PyData.int)) (h1 : 1 ≤ rs.length) (h3 : rs.length ≤ 3) (hr : ∀ y ∈ rs, 1 ≤ y ∧ y ≤ 600) : rowsD x = true := by
  unfold rowsD
  rw [hx]
  show ((decide ((1 : Int) ≤ ((rs.map PyData.int).length : Int)) && decide (((rs.map PyData.int).length : Int) ≤ 3)) && (rs.map PyData.int).all (fun d => betD d 1 600)) = true
  rw [List.length_map, decide_eq_true (by omega), decide_eq_true (by omega), Bool.and_self, Bool.true_and, List.all_eq_true]
  intro d hd
  obtain ⟨y, hy, rfl⟩ := List.mem_map.mp hd
  obtain ⟨a, b⟩ := hr y hy
  exact bD_yes a b
/-- a road's data, in order -/
structure RdOk (n l m la tu lo qu pe : Int) (rs : List Int) : Prop where
  a1 : n + 2 * l ≤ la
  a2 : la ≤ n + 2 * m
  t1 : 2 * m ≤ tu
  t2 : tu ≤ 200
  l1 : 1 ≤ lo
  l2 : lo ≤ 3
  r1 : 1 ≤ rs.length
  r3 : rs.length ≤ 3
  rr : ∀ y ∈ rs, 1 ≤ y ∧ y ≤ 600
  q1 : 1 ≤ qu
  q2 : qu ≤ 500
  p1 : 1 ≤ pe
  p2 : pe ≤ 200
theorem roadDue_ok {n l m la tu lo qu pe : Int} {rs : List Int} {x : PyData} (h : RdOk n l m la tu lo qu pe rs) (hx : itemsD x = some (rs.map PyData.int)) : roadDue n l m (.int la) (.int tu) (.int lo) x (.int qu) (.int pe) = none := by
  unfold roadDue lullDue2 rowsDue quietDue perDue
  rw [bD_yes h.a1 h.a2, bD_yes h.t1 h.t2, bD_yes h.l1 h.l2, rowsD_ok hx h.r1 h.r3 h.rr, bD_yes h.q1 h.q2, bD_yes h.p1 h.p2]
  rfl
section
variable {P : Program} {w : World} {K : PySem.W.Frag} {mg : Str → Option Value} {base : Heap} {A : Ad}
theorem mk_way {bo : Option Int} {li mi : Int} {bs : List Bx} {xd : PyData} (hb : bOk bo) (hd : 1 ≤ li ∧ li ≤ mi ∧ mi ≤ 50) (hx : xd = .list (bs.map bxD) ∨ xd = .tuple (bs.map bxD)) (hl : bs.length ≤ 3) (hbs : ∀ q ∈ bs, bxOk q li mi)
    {H : Hp} {x dx : Addr} {vx : V} (hvx : Dp K H vx xd) (hx0 : H x = none) (hdx : H dx = none) (hne : dx ≠ x) {vs : List V} (hvs : vs = [.ref x, bV bo, .int li, .int mi, vx]) {Q : VK} {E : XK} (k : ∀ H', Ext H H' → MyWay K A H' x bo li mi bs → Q .non H') :
    spWayInit K A vs (upd (upd H dx (.own x)) x (.ins A.Way dx [])) Q E := by
  have e3 := (Ext.upd (o := .own x) hdx).upd' (o := .ins A.Way dx []) (by rw [upd_ne hne.symm]; exact hx0)
  have due := due_ok hb hd hx hl hbs
  refine ⟨x, dx, _, _, _, _, bD bo, .int li, .int mi, xd, hvs, upd_same, bV_dp bo, .int _, .int _, dp_ext e3 _ _ hvx, fun s hs => (by rw [due] at hs; cases hs), fun i hs => (by rw [due] at hs; cases hs), fun _ ds H' hit hw hB => ?_⟩
  have hds : ds = bs.map bxD := by
    rcases hx with rfl | rfl <;> exact (Option.some.inj hit).symm
  subst hds
  obtain ⟨T, xs, h1, h2, h3⟩ := hw
  exact k H' (fun a u h => hB a u (ne_of_none h hx0) (e3 a u h)) ⟨dx, T, xs, h1, h2, h3⟩
theorem mk_road {n l m la tu lo qu pe : Int} {rs : List Int} {bs : List Bx} {xd : PyData} (h : RdOk n l m la tu lo qu pe rs) (hx : itemsD xd = some (rs.map PyData.int)) {H : Hp} {x dx wp : Addr} {vx : V} (hvx : Dp K H vx xd) (hw : MyWay K A H wp (some n) l m bs)
    (hx0 : H x = none) (hdx : H dx = none) (hne : dx ≠ x) {vs : List V} (hvs : vs = [.ref x, .ref wp, .int la, .int tu, .int lo, vx, .int qu, .int pe]) {Q : VK} {E : XK} (k : ∀ H', Ext H H' → RdAt K A H' x ⟨some n, l, m, bs, la, tu, lo, rs, qu, pe⟩ → Q .non H') :
    spRoadInit K A vs (upd (upd H dx (.own x)) x (.ins A.Road dx [])) Q E := by
  have e3 := (Ext.upd (o := .own x) hdx).upd' (o := .ins A.Road dx []) (by rw [upd_ne hne.symm]; exact hx0)
  have due := roadDue_ok h hx
  refine ⟨x, dx, _, _, _, _, _, _, _, .int la, .int tu, .int lo, xd, .int qu, .int pe, hvs, upd_same, .int _, .int _, .int _, dp_ext e3 _ _ hvx, .int _, .int _, .inr ⟨wp, some n, l, m, bs, rfl, hw.ext e3, (fun h => nomatch h), fun n' hn => ?_⟩⟩
  cases hn
  refine ⟨fun s hs => (by rw [due] at hs; cases hs), fun _ lai tui loi qui pei rs' q1 q2 q3 q4 q5 hit H' hr hB => ?_⟩
  cases q1
  cases q2
  cases q3
  cases q4
  cases q5
  have hrs : rs' = rs := by
    rw [hx] at hit
    have := Option.some.inj hit
    exact ((List.map_inj_right (fun a b h => by cases h; rfl)).mp this).symm
  subst hrs
  have eH : Ext H H' := fun a u h => hB a u (ne_of_none h hx0) (e3 a u h)
  exact k H' eH ⟨wp, hr, hw.ext eH⟩
def rdOf (r : PlD) : RdD := ⟨some r.o, r.l, r.d, r.bs, r.la, r.tu, r.lo, r.rs, r.qu, r.pe⟩
/-- what a road may be made of -/
structure MdOk (r : PlD) : Prop where
  o1 : 0 ≤ r.o
  o2 : r.o ≤ 1000
  l1 : 1 ≤ r.l
  ld : r.l ≤ r.d
  d2 : r.d ≤ 50
  bx : ∀ q ∈ r.bs, bxOk q r.l r.d
  b3 : r.bs.length ≤ 3
  ok : RdOk r.o r.l r.d r.la r.tu r.lo r.qu r.pe r.rs
theorem PlOk.md {r : PlD} (h : PlOk r) : MdOk r := ⟨h.o1, h.o2, h.l1, h.ld, by have := h.d2; omega, h.bx, h.b3, ⟨h.a1, h.a2, h.t1, by have := h.t2; omega, h.s1, h.s2, h.r1, h.r3, fun y hy => by have := h.rr y hy; omega, h.q1, by have := h.q2; omega, h.p1, by have := h.p2; omega⟩⟩
theorem ints_dp {H : Hp} {ro : Addr} {rs : List Int} (h : H ro = some (.lst (rs.map V.int))) : Dp K H (.ref ro) (.list (rs.map PyData.int)) := by
  have := Dp.lst (K := K) (SqL.of h) (dp_all (K := K) (H := H) (vs := rs.map V.int) fl_ints)
  rw [List.map_map] at this
  exact this
def spMade (K : PySem.W.Frag) (A : Ad) : Sp := fun vs H Q _ => ∃ (p bx ro : Addr) (xs : List V) (r : PlD), vs = [.ref p] ∧ Drawn H p bx ro xs r ∧ MdOk r ∧ ∀ q H', Ext H H' → H q = none → RdAt K A H' q (rdOf r) → Q (.ref q) H'
theorem ok_made {f : Addr} {fd : FuncData} (F : Fun K "_law_made" "_law_made" s__law_made f fd) (O_Way : OwnC P w K mg base (L2.CX P w) "Way" A.Way 5 pm_Way_init (spWayInit K A)) (O_Road : OwnC P w K mg base (L2.CX P w) "Road" A.Road 5 pm_Road_init (spRoadInit K A)) : FnOk P w K mg base CX0 7 f fd pm__law_made (spMade K A) := by
  refine F.ok sc__law_made (fun vs H Q E h => ?_) (fun cdv A' outer s H vs Q E hr h => ?_)
  · obtain ⟨_, _, _, _, _, rfl, _⟩ := h
    rfl
  · obtain ⟨p, bx, ro, xs, r, rfl, hd, ok, k⟩ := h
    refine ⟨_, pss_cons (ps_set (i := 1) sc__law_made.nd rfl (Or.inl rfl) (pe_new O_Way (hr.mono (by decide)) passL (pa_cons (pe_ix ix_list (pv 0) (pe_int) (fun _ _ => rfl)) (pa_cons (pe_ix ix_list (pv 0) (pe_int) (fun _ _ => rfl)) (pa_cons (pe_ix ix_list (pv 0) (pe_int) (fun _ _ => rfl)) (pa_cons (pe_ix ix_list (pv 0) (pe_int) (fun _ _ => rfl)) pa_nil))))))
      (pss_one (ps_ret (pe_new O_Road (hr.mono (by decide)) passL (pa_cons (pv 1) (pa_cons (pe_ix ix_list (pv 0) (pe_int) (fun _ _ => rfl)) (pa_cons (pe_ix ix_list (pv 0) (pe_int) (fun _ _ => rfl)) (pa_cons (pe_ix ix_list (pv 0) (pe_int) (fun _ _ => rfl)) (pa_cons (pe_ix ix_list (pv 0) (pe_int) (fun _ _ => rfl)) (pa_cons (pe_ix ix_list (pv 0) (pe_int) (fun _ _ => rfl)) (pa_cons (pe_ix ix_list (pv 0) (pe_int) (fun _ _ => rfl)) pa_nil)))))))))), ?_⟩
    have hp := SqL.of (K := K) hd.p
    refine ⟨_, rfl, p, _, 0, .int r.o, rfl, rfl, hp, rfl, _, rfl, p, _, 1, .int r.l, rfl, rfl, hp, rfl, _, rfl, p, _, 2, .int r.d, rfl, rfl, hp, rfl, _, rfl, p, _, 3, .ref bx, rfl, rfl, hp, rfl, fun x dx hx hdx hne => mk_way (bo := some r.o) (bs := r.bs) (fun n hn => by cases hn; exact ⟨ok.o1, ok.o2⟩) ⟨ok.l1, ok.ld, ok.d2⟩ (.inl rfl) ok.b3 ok.bx (.lst (SqL.of hd.bx) hd.xs.dp) hx hdx hne rfl fun H1 e1 hw => ⟨rfl, ?_⟩⟩
    have hp1 := SqL.of (K := K) (e1 _ _ hd.p)
    refine ⟨_, rfl, _, rfl, p, _, 4, .int r.la, rfl, rfl, hp1, rfl, _, rfl, p, _, 5, .int r.tu, rfl, rfl, hp1, rfl, _, rfl, p, _, 6, .int r.lo, rfl, rfl, hp1, rfl, _, rfl, p, _, 7, .ref ro, rfl, rfl, hp1, rfl, _, rfl, p, _, 8, .int r.qu, rfl, rfl, hp1, rfl, _, rfl, p, _, 9, .int r.pe, rfl, rfl, hp1, rfl, fun x2 dx2 hx2 hdx2 hne2 => mk_road ok.ok rfl (ints_dp (e1 _ _ hd.ro)) hw hx2 hdx2 hne2 rfl fun H2 e2 hr2 => ⟨rfl, ?_⟩⟩
    exact k x2 H2 (e1.trans e2) (by
      cases q : H x2 with
      | none => rfl
      | some u =>
        rw [e1 _ _ q] at hx2
        cases hx2) hr2
end
end K29

set_option Elab.async false
set_option maxRecDepth 100000
set_option maxHeartbeats 4000000
namespace K31
/-! the greatest gap that a play can bring about: stops that go on by the turn t behind q -/
def eA (t q : Int) : List Int → Nat → Int
  | [], L => q + (L : Int) * t
  | s :: _, 0 => s
  | _ :: ss, L + 1 => eA t q ss L
abbrev eL (t q : Int) (L : Nat) (ss : List Int) : Int := eA t q ss L
def inn (t q : Int) (L : Nat) : List Int → Int
  | [] => 0
  | s :: ss => max (eL t q L ss - s) (inn t q L ss)
/-- they rise, up to q -/
def Up (q : Int) : List Int → Prop
  | [] => True
  | s :: ss => s ≤ q ∧ (∀ x ∈ ss, s ≤ x) ∧ Up q ss
theorem eL_ge {t q : Int} (t0 : 0 ≤ t) {s : Int} (hq : s ≤ q) : ∀ (L : Nat) (ss : List Int), (∀ x ∈ ss, s ≤ x) → s ≤ eL t q L ss
  | L, [], _ => by
    show s ≤ q + (L : Int) * t
    have := Int.mul_nonneg (show 0 ≤ (L : Int) by omega) t0
    omega
  | 0, x :: _, h => h x List.mem_cons_self
  | L + 1, _ :: ss, h => eL_ge t0 hq L ss fun x hx => h x (List.mem_cons_of_mem _ hx)
theorem eL_mono {t q : Int} (t0 : 0 ≤ t) : ∀ (L : Nat) (ss : List Int), Up q ss → eL t q L ss ≤ eL t q (L + 1) ss
  | L, [], _ => by
    show q + (L : Int) * t ≤ q + ((L + 1 : Nat) : Int) * t
    rw [show ((L + 1 : Nat) : Int) = (L : Int) + 1 by omega, Int.add_mul, Int.one_mul]
    omega
  | 0, s :: ss, h => eL_ge t0 h.1 0 ss h.2.1
  | L + 1, _ :: ss, h => eL_mono t0 L ss h.2.2
theorem inn_nn {t q : Int} {L : Nat} : ∀ (ss : List Int), 0 ≤ inn t q L ss
  | [] => Int.le_refl _
  | s :: ss => by
    have := inn_nn (t := t) (q := q) (L := L) ss
    show 0 ≤ max (eL t q L ss - s) (inn t q L ss)
    omega
theorem inn_mono {t q : Int} (t0 : 0 ≤ t) (L : Nat) : ∀ (ss : List Int), Up q ss → inn t q L ss ≤ inn t q (L + 1) ss
  | [], _ => Int.le_refl _
  | s :: ss, h => by
    have h1 := inn_mono t0 L ss h.2.2
    have h2 := eL_mono t0 L ss h.2.2
    show max (eL t q L ss - s) (inn t q L ss) ≤ max (eL t q (L + 1) ss - s) (inn t q (L + 1) ss)
    omega
theorem eL_shift {t q c : Int} : ∀ (L : Nat) (ss : List Int), eL t (q + c) L (ss.map (· + c)) = eL t q L ss + c
  | L, [] => by
    show q + c + (L : Int) * t = q + (L : Int) * t + c
    omega
  | 0, s :: _ => rfl
  | L + 1, _ :: ss => eL_shift L ss
theorem inn_shift {t q c : Int} {L : Nat} : ∀ (ss : List Int), inn t (q + c) L (ss.map (· + c)) = inn t q L ss
  | [] => rfl
  | s :: ss => by
    show max (eL t (q + c) L (ss.map (· + c)) - (s + c)) (inn t (q + c) L (ss.map (· + c))) = max (eL t q L ss - s) (inn t q L ss)
    rw [eL_shift, inn_shift ss]
    omega
theorem up_shift {q c : Int} : ∀ (ss : List Int), Up q ss → Up (q + c) (ss.map (· + c))
  | [], _ => True.intro
  | s :: ss, h => ⟨(by have := h.1; show s + c ≤ q + c; omega), fun x hx => by
      obtain ⟨y, hy, rfl⟩ := List.mem_map.mp hx
      have := h.2.1 y hy
      show s + c ≤ y + c
      omega, up_shift ss h.2.2⟩
/-- the gap of a quiet: signs ss, the next row at q, an answer that comes d late behind a sending -/
def gapQ (d t q : Int) (ss : List Int) (L : Nat) : Int := max (eL t q L ss + 2 * d) (inn t q L ss)
/-- what comes later: left parcels of this row (this one too), the rows behind -/
def fut (d t q : Int) (ss : List Int) (L : Nat) : Int → List Int → Int
  | left, [] => if left > 1 then 2 * d + (L : Int) * t else 0
  | left, r :: rest => max (if left > 1 then 2 * d + (L : Int) * t else 0) (max (gapQ d t q ss L) (fut d t q ss L r rest))
def late (d t q : Int) (ss : List Int) (L : Nat) : List Int → Int
  | [] => 0
  | r :: rest => max (gapQ d t q ss L) (fut d t q ss L r rest)
theorem fut_is {d t q : Int} {ss : List Int} {L : Nat} (left : Int) (rest : List Int) (h0 : 0 ≤ 2 * d + (L : Int) * t) : fut d t q ss L left rest = max (if left > 1 then 2 * d + (L : Int) * t else 0) (late d t q ss L rest) := by
  cases rest with
  | nil =>
    show (if left > 1 then 2 * d + (L : Int) * t else 0) = max (if left > 1 then 2 * d + (L : Int) * t else 0) 0
    split <;> omega
  | cons r rest => rfl
theorem two_mono {d t : Int} (t0 : 0 ≤ t) (L : Nat) : 2 * d + (L : Int) * t ≤ 2 * d + ((L + 1 : Nat) : Int) * t := by
  rw [show ((L + 1 : Nat) : Int) = (L : Int) + 1 by omega, Int.add_mul, Int.one_mul]
  omega
theorem fut_mono {d t q : Int} {ss : List Int} (t0 : 0 ≤ t) (hu : Up q ss) (L : Nat) : ∀ (rest : List Int) (left : Int), fut d t q ss L left rest ≤ fut d t q ss (L + 1) left rest
  | [], left => by
    have := two_mono (d := d) t0 L
    show (if left > 1 then 2 * d + (L : Int) * t else 0) ≤ (if left > 1 then 2 * d + ((L + 1 : Nat) : Int) * t else 0)
    split <;> omega
  | r :: rest, left => by
    have h1 := two_mono (d := d) t0 L
    have h2 := fut_mono (d := d) t0 hu L rest r
    have h3 := eL_mono t0 L ss hu
    have h4 := inn_mono t0 L ss hu
    show max (if left > 1 then 2 * d + (L : Int) * t else 0) (max (max (eL t q L ss + 2 * d) (inn t q L ss)) (fut d t q ss L r rest)) ≤ max (if left > 1 then 2 * d + ((L + 1 : Nat) : Int) * t else 0) (max (max (eL t q (L + 1) ss + 2 * d) (inn t q (L + 1) ss)) (fut d t q ss (L + 1) r rest))
    split <;> omega
theorem fut_nn {d t q : Int} {ss : List Int} {L : Nat} (h0 : 0 ≤ 2 * d + (L : Int) * t) : ∀ (rest : List Int) (left : Int), 0 ≤ fut d t q ss L left rest
  | [], left => by
    show 0 ≤ (if left > 1 then 2 * d + (L : Int) * t else 0)
    split <;> omega
  | r :: rest, left => by
    have := fut_nn (q := q) (ss := ss) h0 rest r
    show 0 ≤ max _ (max _ (fut d t q ss L r rest))
    omega
/-- a parcel sent at m, the last one that came at s -/
def plV (d t q : Int) (ss : List Int) (L : Nat) (left : Int) (rest : List Int) (m s : Int) : Int := max (m - s + (L : Int) * t) (fut d t q ss L left rest)
/-- signs at ts still to be sent, the next parcel at z -/
def sgV (d t q : Int) (ss : List Int) (L : Nat) (left : Int) (rest : List Int) (ts : List Int) (z s : Int) : Int := max (max (eL t z L ts - s) (inn t z L ts)) (fut d t q ss L left rest)
theorem sgV_nil {d t q : Int} {ss : List Int} {L : Nat} {left : Int} {rest : List Int} {z s : Int} (h : s ≤ z) (t0 : 0 ≤ t) : sgV d t q ss L left rest [] z s = plV d t q ss L left rest z s := by
  have := Int.mul_nonneg (show 0 ≤ (L : Int) by omega) t0
  show max (max (z + (L : Int) * t - s) 0) (fut d t q ss L left rest) = max (z - s + (L : Int) * t) (fut d t q ss L left rest)
  omega
theorem sgV_zero {d t q : Int} {ss : List Int} {left : Int} {rest : List Int} {ts : List Int} {x z s : Int} : max (x - s) (sgV d t q ss 0 left rest ts z x) = sgV d t q ss 0 left rest (x :: ts) z s := by
  show max (x - s) (max (max (eL t z 0 ts - x) (inn t z 0 ts)) _) = max (max (x - s) (max (eL t z 0 ts - x) (inn t z 0 ts))) _
  omega
theorem sgV_succ {d t q : Int} {ss : List Int} {L : Nat} {left : Int} {rest : List Int} {ts : List Int} {x z s : Int} (t0 : 0 ≤ t) (hu : Up q ss) (hx : Up z (x :: ts)) : max (max (x - s) (sgV d t q ss (L + 1) left rest ts z x)) (sgV d t q ss L left rest ts z s) = sgV d t q ss (L + 1) left rest (x :: ts) z s := by
  have h1 := eL_ge t0 hx.1 L ts hx.2.1
  have h2 := inn_mono t0 L ts hx.2.2
  have h3 := fut_mono (d := d) t0 hu L rest left
  show max (max (x - s) (max (max (eL t z (L + 1) ts - x) (inn t z (L + 1) ts)) (fut d t q ss (L + 1) left rest))) (max (max (eL t z L ts - s) (inn t z L ts)) (fut d t q ss L left rest)) = max (max (eL t z L ts - s) (max (eL t z (L + 1) ts - x) (inn t z (L + 1) ts))) (fut d t q ss (L + 1) left rest)
  omega
/-- behind an answer that took b -/
def nxV (d t q : Int) (ss : List Int) (L : Nat) (left : Int) (rest : List Int) (b : Int) : Int :=
  if left > 1 then plV d t q ss L (left - 1) rest b 0 else match rest with
    | [] => 0
    | r :: rest' => sgV d t q ss L r rest' (ss.map (· + b)) (q + b) 0
theorem sgV_shift {d t q : Int} {ss : List Int} {L : Nat} {left : Int} {rest ts : List Int} {z s c : Int} : sgV d t q ss L left rest (ts.map (· + c)) (z + c) (s + c) = sgV d t q ss L left rest ts z s := by
  unfold sgV
  rw [eL_shift, inn_shift]
  omega
/-- the two ways to answer, at the earliest and at the latest -/
theorem nxV_two {d t q l : Int} {ss : List Int} {L : Nat} {left : Int} {rest : List Int} (l0 : 0 ≤ l) (ld : l ≤ d) (t0 : 0 ≤ t) (left1 : 1 ≤ left) : max (nxV d t q ss L left rest (2 * l)) (nxV d t q ss L left rest (2 * d)) = fut d t q ss L left rest := by
  have hm := Int.mul_nonneg (show 0 ≤ (L : Int) by omega) t0
  have h0 : 0 ≤ 2 * d + (L : Int) * t := by omega
  rw [fut_is left rest h0]
  unfold nxV
  by_cases h : left > 1
  · rw [if_pos h, if_pos h, if_pos h]
    unfold plV
    rw [fut_is (left - 1) rest h0]
    split <;> omega
  · rw [if_neg h, if_neg h, if_neg h]
    have hl := fut_nn (q := q) (ss := ss) (L := L) h0
    cases rest with
    | nil => show max (0 : Int) 0 = max 0 0; omega
    | cons r rest =>
      show max (sgV d t q ss L r rest (ss.map (· + 2 * l)) (q + 2 * l) 0) (sgV d t q ss L r rest (ss.map (· + 2 * d)) (q + 2 * d) 0) = max 0 (max (gapQ d t q ss L) (fut d t q ss L r rest))
      unfold sgV gapQ
      rw [eL_shift, eL_shift, inn_shift, inn_shift]
      have := hl rest r
      omega
theorem plV_zero {d t q l : Int} {ss : List Int} {left : Int} {rest : List Int} {m s : Int} (l0 : 0 ≤ l) (ld : l ≤ d) (t0 : 0 ≤ t) (left1 : 1 ≤ left) : max (m - s) (max (nxV d t q ss 0 left rest (2 * l)) (nxV d t q ss 0 left rest (2 * d))) = plV d t q ss 0 left rest m s := by
  rw [nxV_two l0 ld t0 left1]
  unfold plV
  rw [Int.natCast_zero, Int.zero_mul]
  omega
theorem plV_succ {d t q l : Int} {ss : List Int} {L : Nat} {left : Int} {rest : List Int} {m s : Int} (l0 : 0 ≤ l) (ld : l ≤ d) (t0 : 0 ≤ t) (hu : Up q ss) (left1 : 1 ≤ left) (hs : s ≤ m) : max (max (m - s) (max (nxV d t q ss (L + 1) left rest (2 * l)) (nxV d t q ss (L + 1) left rest (2 * d)))) (max (plV d t q ss L left rest (m + t) m) (plV d t q ss L left rest (m + t) s)) = plV d t q ss (L + 1) left rest m s := by
  rw [nxV_two l0 ld t0 left1]
  have h1 := fut_mono (d := d) t0 hu L rest left
  have hm := Int.mul_nonneg (show 0 ≤ (L : Int) by omega) t0
  have e : ((L + 1 : Nat) : Int) * t = (L : Int) * t + t := by rw [show ((L + 1 : Nat) : Int) = (L : Int) + 1 by omega, Int.add_mul, Int.one_mul]
  unfold plV
  rw [e]
  omega
/-- the greatest gap, by the kinds -/
theorem plV_all {d t q : Int} {ss : List Int} {L : Nat} {m s : Int} (h0 : 0 ≤ 2 * d + (L : Int) * t) (hs : s ≤ m) (t0 : 0 ≤ t) : ∀ (r : Int) (rest : List Int), plV d t q ss L r rest m s = max (m - s + (L : Int) * t) (max (if (r :: rest).any (fun x => decide (x > 1)) = true then 2 * d + (L : Int) * t else 0) (if rest = [] then 0 else gapQ d t q ss L))
  | r, [] => by
    have hm := Int.mul_nonneg (show 0 ≤ (L : Int) by omega) t0
    unfold plV
    show max _ (if r > 1 then 2 * d + (L : Int) * t else 0) = max _ (max (if (decide (r > 1) || false) = true then _ else 0) 0)
    rw [Bool.or_false]
    by_cases h : r > 1
    · rw [if_pos h, decide_eq_true h, if_pos rfl]; omega
    · rw [if_neg h, decide_eq_false h, if_neg (by decide)]; omega
  | r, r2 :: rest => by
    have hm := Int.mul_nonneg (show 0 ≤ (L : Int) by omega) t0
    have ih := plV_all (q := q) (ss := ss) (L := L) h0 hs t0 r2 rest
    unfold plV at ih ⊢
    have hn := inn_nn (t := t) (q := q) (L := L) ss
    have hg : 0 ≤ gapQ d t q ss L := by unfold gapQ; omega
    show max _ (max (if r > 1 then 2 * d + (L : Int) * t else 0) (max (gapQ d t q ss L) (fut d t q ss L r2 rest))) = max _ (max (if (decide (r > 1) || (r2 :: rest).any fun x => decide (x > 1)) = true then _ else 0) _)
    rw [if_neg (List.cons_ne_nil _ _)]
    cases ha : (r2 :: rest).any fun x => decide (x > 1) with
    | true =>
      rw [ha, if_pos rfl] at ih
      rw [Bool.or_true, if_pos rfl]
      split at ih <;> split <;> omega
    | false =>
      rw [ha, if_neg (by decide)] at ih
      rw [Bool.or_false]
      by_cases h : r > 1
      · rw [if_pos h, decide_eq_true h, if_pos rfl]
        split at ih <;> omega
      · rw [if_neg h, decide_eq_false h, if_neg (by decide)]
        split at ih <;> omega
end K31

set_option Elab.async false
set_option maxRecDepth 100000
set_option maxHeartbeats 4000000
namespace K29
open PySem PySem.Spec PyProof.Rows L2 K31
def sgn (Z p : Int) : List Int := (List.range ((Z - 1) / p).toNat).map fun (i : Nat) => p + (i : Int) * p
def st (D T Z : Int) (S : List Int) (i : Nat) : Int := if i = 0 then -2 * D else if i ≤ S.length then S.getD (i - 1) 0 else Z + ((i - S.length - 1 : Nat) : Int) * T
def stL (d t z : Int) (L : Nat) (S : List Int) : List Int := (-2 * d) :: (S ++ (List.range (L + 1)).map fun (i : Nat) => z + (i : Int) * t)
theorem stL_len {d t z : Int} {L : Nat} {S : List Int} : (stL d t z L S).length = S.length + L + 2 := by
  simp [stL]
  omega
theorem stL_get {d t z : Int} {L : Nat} {S : List Int} {i : Nat} (h : i < S.length + L + 2) : (stL d t z L S).getD i 0 = st d t z S i := by
  unfold st stL
  by_cases h0 : i = 0
  · subst h0
    rw [if_pos rfl]
    rfl
  · rw [if_neg h0]
    obtain ⟨j, rfl⟩ : ∃ j, i = j + 1 := ⟨i - 1, by omega⟩
    rw [List.getD_cons_succ, List.getD_eq_getElem?_getD]
    by_cases h1 : j + 1 ≤ S.length
    · rw [if_pos h1, List.getElem?_append_left (by omega), Nat.add_sub_cancel, List.getD_eq_getElem?_getD]
    · rw [if_neg h1, List.getElem?_append_right (by omega), List.getElem?_map, List.getElem?_range (by omega), show j + 1 - S.length - 1 = j - S.length by omega]
      rfl
def IsW (tl : List Int) (k : Nat) (m : Int) : Prop := (∃ i, i + k < tl.length ∧ tl.getD (i + k) 0 - tl.getD i 0 = m) ∧ ∀ i, i + k < tl.length → tl.getD (i + k) 0 - tl.getD i 0 ≤ m
def Gap (d t : Int) (L : Nat) (z : Int) (S : List Int) (m : Int) : Prop := (∃ i, i ≤ S.length ∧ st d t z S (i + (L + 1)) - st d t z S i = m) ∧ ∀ i, i ≤ S.length → st d t z S (i + (L + 1)) - st d t z S i ≤ m
theorem isW_gap {d t z m : Int} {L : Nat} {S : List Int} : IsW (stL d t z L S) (L + 1) m ↔ Gap d t L z S m := by
  unfold IsW Gap
  rw [stL_len]
  constructor
  · rintro ⟨⟨i, hi, h1⟩, h2⟩
    refine ⟨⟨i, by omega, ?_⟩, fun j hj => ?_⟩
    · rw [stL_get hi, stL_get (by omega)] at h1
      exact h1
    · have := h2 j (by omega)
      rw [stL_get (by omega), stL_get (by omega)] at this
      exact this
  · rintro ⟨⟨i, hi, h1⟩, h2⟩
    refine ⟨⟨i, by omega, ?_⟩, fun j hj => ?_⟩
    · rw [stL_get (by omega), stL_get (by omega)]
      exact h1
    · rw [stL_get (by omega), stL_get (by omega)]
      exact h2 j (by omega)
theorem gap_one {d t z m m' : Int} {L : Nat} {S : List Int} (h : Gap d t L z S m) (h' : Gap d t L z S m') : m = m' := by
  obtain ⟨⟨i, hi, h1⟩, h2⟩ := h
  obtain ⟨⟨j, hj, h3⟩, h4⟩ := h'
  have := h2 j hj
  have := h4 i hi
  omega
theorem cut_from {S : List Int} {k : Nat} (h : k ≤ S.length) : cutV (S.map V.int) (some (k : Int)) none = (S.drop k).map V.int := by
  unfold cutV
  rw [show HT.sIx (S.map V.int).length (S.map V.int).length none = (S.map V.int).length from rfl, HT.sIx_nat, Nat.min_eq_left (by rw [List.length_map]; exact h), ← List.map_drop, List.take_of_length_le (by simp)]
theorem sgn_len {Z p : Int} : (sgn Z p).length = ((Z - 1) / p).toNat := by simp [sgn]
structure Sizes (d t l z : Int) : Prop where
  d1 : 1 ≤ d
  d2 : d ≤ 50
  t1 : 2 * d ≤ t
  t2 : t ≤ 200
  l1 : 1 ≤ l
  l2 : l ≤ 3
  z1 : 1 ≤ z
  z2 : z ≤ 500
theorem rg_sgn {z p : Int} (h1 : 1 ≤ p) (h2 : p ≤ 200) (z1 : 1 ≤ z) (z2 : z ≤ 500) : RgC p z p ((z - 1) / p).toNat := by
  have hsz : Builtin.Range.rangeSize p z p = (((z - 1) / p).toNat : Int) := by
    unfold Builtin.Range.rangeSize
    rw [if_pos (by omega)]
    by_cases h : p < z
    · rw [if_pos h]
      have e := Int.add_mul_ediv_right (z - p - 1) 1 (show p ≠ 0 by omega)
      rw [show z - p - 1 + 1 * p = z - 1 by omega] at e
      have e2 : 0 ≤ (z - 1) / p := Int.ediv_nonneg (by omega) (by omega)
      omega
    · rw [if_neg h, Int.ediv_eq_zero_of_lt (by omega) (by omega)]
      rfl
  have hle : (z - 1) / p ≤ z - 1 := Int.ediv_le_self _ (by omega)
  have h0 : 0 ≤ (z - 1) / p := Int.ediv_nonneg (by omega) (by omega)
  refine ⟨by omega, by omega, ?_, hsz⟩
  unfold Builtin.Range.small
  rw [hsz]
  have f : ∀ x : Int, -1000 ≤ x → x ≤ 1000 → Builtin.Range.rangeFitsLong x = true := fun x a b => by
    unfold Builtin.Range.rangeFitsLong
    simp
    omega
  rw [f p (by omega) (by omega), f z (by omega) (by omega), f _ (by omega) (by omega), if_pos (by omega), f _ (by omega) (by omega)]
  simp
theorem rgC_sgn {z p : Int} : rgC p p ((z - 1) / p).toNat = (sgn z p).map V.int := by
  unfold rgC sgn
  rw [List.map_map]
  rfl
theorem sgn_short {z p : Int} (h1 : 1 ≤ p) (z1 : 1 ≤ z) (z2 : z ≤ 500) : (sgn z p).length ≤ 500 := by
  rw [sgn_len]
  have hle : (z - 1) / p ≤ z - 1 := Int.ediv_le_self _ (by omega)
  omega
section
variable {P : Program} {w : World} {K : PySem.W.Frag} {mg : Str → Option Value} {base : Heap} {A : Ad}
def spStopsOf (K : PySem.W.Frag) (A : Ad) : Sp := fun vs H Q _ => ∃ (p q : Addr) (d t : Int) (L : Nat) (z : Int) (S : List Int), vs = [.ref p, .ref q] ∧ LullAt A H p d t (L : Int) z ∧ (SqT K H q (S.map V.int) ∨ SqL K H q (S.map V.int)) ∧ L ≤ 3 ∧ S.length ≤ 1000 ∧ 0 ≤ t ∧ t ≤ 200 ∧
  ∀ r H', Ext H H' → H' r = some (.tup ((stL d t z L S).map V.int)) → Q (.ref r) H'
theorem ok_stopsOf {f : Addr} {fd : FuncData} (F : Fun K "stops_of" "stops_of" s_stops_of f fd) (T : Txt K mg A) : FnOk P w K mg base CX0 1 f fd pm_stops_of (spStopsOf K A) := by
  refine F.ok sc_stops_of (fun vs H Q E h => ?_) (fun cdv A' outer s H vs Q E hr h => ?_)
  · obtain ⟨_, _, _, _, _, _, _, rfl, _⟩ := h
    rfl
  · obtain ⟨p, q, d, t, L, z, S, rfl, ⟨dx, hp⟩, hq, hL, hS, t0, t2, k⟩ := h
    refine ⟨_, pss_cons (ps_setLc (i := 2) (te := tOp (rI0 fun i j => .int (i + j)) (tFld K (tVar 0) "quiet") (tOp (rI CMul fun i j => .int (i * j)) (tVar 3) (tFld K (tVar 0) "turn"))) (own := [("lost", 3)]) (g := gName 3) (by rfl) sc_stops_of.nd rfl rfl (sw_true rfl rfl rfl (by decide +kernel)) (pi_range1 rfl T.n_range (pa_cons (pe_op op_add (pe_fld (pv 0) rfl) (pe_int)) pa_nil)) (blkOk_by (own := [("lost", 3)]) (N := nm_stops_of) (sc := defScope s_stops_of) (by decide +kernel)) (fun _ _ _ _ _ => pg_name (i := 3) sc_stops_of.nd rfl (Or.inl rfl)) (fun s1 H1 C1 cl fp => pts_nil) (fun s1 H1 C1 cl fp => pe_op op_add (pe_fldK (K := K) rfl (pv 0) rfl) (pe_op op_mul (pv 3) (pe_fldK (K := K) rfl (pv 0) rfl))))
      (pss_one (ps_ret (pe_tup (pa_cons (pe_op op_mul (pe_un un_neg (pe_int)) (pe_fld (pv 0) rfl)) (StX.pa_star (pv 1) (StX.pa_star (pv 2) (pa_nil))))))), ?_⟩
    refine ⟨_, rfl, p, A.Lull, dx, _, _, rfl, hp, T.Lull.cl, T.c_losses, rfl, _, _, rfl, rfl, _, rfl, by omega, by omega, lc_rgR (b := fun _ => true) (f := fun i => .int (z + (i : Int) * t)) (by show _ < 16777216; omega) (fun x => rfl) (fun i hi H' e' Q' q' => q' _ Ext.rfl') (fun i hi _ H' e' Q' q' => ?_) (fun D H1 hD e1 hl => ?_)⟩
    · have hp' := e' _ _ hp
      refine ⟨_, rfl, p, A.Lull, dx, _, _, rfl, hp', T.Lull.cl, T.c_quiet, rfl, _, rfl, _, rfl, p, A.Lull, dx, _, _, rfl, hp', T.Lull.cl, T.c_turn, rfl, _, _, rfl, rfl, .inr ⟨by omega, by omega⟩, _, _, rfl, rfl, ?_⟩
      rw [Int.zero_add]
      exact q' _ Ext.rfl'
    · rw [L2.filter_all] at hl
      have hp' := e1 _ _ hp
      have hq' : SqT K H1 q (S.map V.int) ∨ SqL K H1 q (S.map V.int) := hq.imp (fun h => h.ext e1) (fun h => h.ext e1)
      refine ⟨_, rfl, _, rfl, p, A.Lull, dx, _, _, rfl, hp', T.Lull.cl, T.c_delay, rfl, _, _, rfl, rfl, .inl ⟨by decide, by decide⟩, _, rfl, q, _, rfl, hq', _, rfl, D, _, rfl, .inr (SqL.of hl), ?_, fun r hr => ?_⟩
      · simp
        show _ ≤ 16777216
        omega
      · refine k r _ (e1.trans (Ext.upd hr)) ?_
        rw [upd_same]
        congr 2
        rw [show ((L : Int) + 1).toNat = L + 1 by omega]
        simp [stL]
def spWidest (A : Ad) : Sp := fun vs H Q _ => ∃ (p q : Addr) (d t : Int) (L : Nat) (z : Int) (tl : List Int), vs = [.ref p, .ref q] ∧ LullAt A H p d t (L : Int) z ∧ H q = some (.tup (tl.map V.int)) ∧ L ≤ 3 ∧ L + 1 < tl.length ∧ tl.length ≤ 1100 ∧
  ∀ m H', Ext H H' → IsW tl (L + 1) m → Q (.int m) H'
theorem ok_widest {f : Addr} {fd : FuncData} (F : Fun K "widest" "widest" s_widest f fd) (T : Txt K mg A) : FnOk P w K mg base CX0 1 f fd pm_widest (spWidest A) := by
  refine F.ok sc_widest (fun vs H Q E h => ?_) (fun cdv A' outer s H vs Q E hr h => ?_)
  · obtain ⟨_, _, _, _, _, _, _, rfl, _⟩ := h
    rfl
  · obtain ⟨p, q, d, t, L, z, tl, rfl, ⟨dx, hp⟩, hq, hL, h1, h2, k⟩ := h
    refine ⟨_, pss_cons (ps_set (i := 2) sc_widest.nd rfl (Or.inl rfl) (pe_slice sl_tupE (pv 1) (po_some (pe_op op_add (pe_fld (pv 0) rfl) (pe_int))) po_none))
      (pss_one (ps_ret (pe_callB (cr_max rfl) (by rfl) T.n_max (by decide +kernel) (pa_cons (pe_lc (own := [("sooner", 3), ("later", 4)]) (g := gTup K 2 (gCons (gName 3) (gCons (gName 4) (gNil)))) (by rfl) sc_widest.nd (RZ.pi_zipA (by rfl) T.n_zip (pa_cons (pv 1) (pa_cons (pv 2) pa_nil))) (blkOk_by (own := [("sooner", 3), ("later", 4)]) (N := nm_widest) (sc := defScope s_widest) (by decide +kernel)) (fun _ _ _ _ _ => pg_tup rfl (pgs_cons (pg_name (i := 3) sc_widest.nd rfl (Or.inl rfl)) (pgs_cons (pg_name (i := 4) sc_widest.nd rfl (Or.inl rfl)) (pgs_nil)))) (fun s1 H1 C1 cl fp => pts_nil) (fun s1 H1 C1 cl fp => pe_callTy call_int1 (by rfl) T.n_int (by decide +kernel) (pa_cons (pe_op op_sub (pv 4) (pv 3)) pa_nil))) pa_nil)))), ?_⟩
    refine ⟨_, rfl, _, rfl, p, A.Lull, dx, _, _, rfl, hp, T.Lull.cl, T.c_losses, rfl, _, _, rfl, rfl, _, rfl, q, _, rfl, hq, fun r H1 e1 hr1 => ?_⟩
    have hq1 := e1 _ _ hq
    rw [show ((L : Int) + 1) = ((L + 1 : Nat) : Int) by omega, cut_from (by omega)] at hr1
    have hx : ∀ i x y, i < tl.length - (L + 1) → (tl.map V.int)[i]? = some x → ((tl.drop (L + 1)).map V.int)[i]? = some y → x = .int (tl.getD i 0) ∧ y = .int (tl.getD (i + (L + 1)) 0) := fun i x y hi a b => by
      rw [get_int (by omega)] at a
      rw [List.getElem?_map, List.getElem?_drop, Nat.add_comm, ← List.getElem?_map, get_int (by omega)] at b
      cases a
      cases b
      exact ⟨rfl, rfl⟩
    refine ⟨_, rfl, _, rfl, q, r, _, _, rfl, .inr ⟨SqT.of hq1, SqT.of hr1, lc_zipR (n := tl.length - (L + 1)) (b := fun _ => true) (f := fun i => .int (tl.getD (i + (L + 1)) 0 - tl.getD i 0)) (SqT.of hq1) (SqT.of hr1) (by rw [List.length_map, List.length_map, List.length_drop]; omega) (small_sz (by omega)) (fun x y => rfl) (fun i x y hi a b H' e' Q' q' => q' _ Ext.rfl') (fun i x y hi a b _ H' e' Q' q' => ?_) (fun D H2 hD e2 hl => ?_)⟩⟩
    · obtain ⟨rfl, rfl⟩ := hx i x y hi a b
      exact ⟨_, rfl, _, rfl, _, _, rfl, rfl, .inl ⟨_, rfl, q' _ Ext.rfl'⟩⟩
    · rw [L2.filter_all] at hl
      refine ⟨D, (List.range (tl.length - (L + 1))).map fun i => tl.getD (i + (L + 1)) 0 - tl.getD i 0, rfl, SqL.of (by rw [hl, List.map_map]; rfl), by rw [List.length_map, List.length_range]; omega, fun m hm hmax => k m _ (e1.trans e2) ⟨?_, fun i hi => hmax _ (List.mem_map.mpr ⟨i, List.mem_range.mpr (by omega), rfl⟩)⟩⟩
      obtain ⟨i, hi, rfl⟩ := List.mem_map.mp hm
      have := List.mem_range.mp hi
      exact ⟨i, by omega, rfl⟩
def spEach (A : Ad) : Sp := fun vs H Q _ => ∃ (p : Addr) (per d t l z : Int), vs = [.ref p, .int per] ∧ LullAt A H p d t l z ∧ Sizes d t l z ∧ 1 ≤ per ∧ per ≤ 200 ∧ ∀ q H', Ext H H' → H' q = some (.tup ((sgn z per).map V.int)) → Q (.ref q) H'
theorem ok_each {f : Addr} {fd : FuncData} (F : Fun K "signs_each" "signs_each" s_signs_each f fd) (T : Txt K mg A) : FnOk P w K mg base CX0 1 f fd pm_signs_each (spEach A) := by
  refine F.ok sc_signs_each (fun vs H Q E h => ?_) (fun cdv A' outer s H vs Q E hr h => ?_)
  · obtain ⟨_, _, _, _, _, _, rfl, _⟩ := h
    rfl
  · obtain ⟨p, per, d, t, l, z, rfl, ⟨dx, hp⟩, Z, h1, h2, k⟩ := h
    refine ⟨_, pss_one (ps_ret (pe_tupRg3 rfl (by rfl) T.n_tuple (prg_3 (by rfl) T.n_range (pa_cons (pv 1) (pa_cons (pe_fld (pv 0) rfl) (pa_cons (pv 1) pa_nil)))))), ?_⟩
    have hz1 := Z.z1
    have hz2 := Z.z2
    refine ⟨_, rfl, _, rfl, p, A.Lull, dx, _, _, rfl, hp, T.Lull.cl, T.c_quiet, rfl, _, rfl, per, z, per, rfl, by omega, ⟨by omega, by omega, by omega, by omega, by omega⟩, _, rg_sgn h1 h2 hz1 hz2, ?_, fun q hq => ?_⟩
    · rw [← sgn_len]
      exact Nat.le_trans (sgn_short h1 hz1 hz2) (by decide)
    · rw [rgC_sgn]
      exact k q _ (Ext.upd hq) upd_same

end
end K29

set_option Elab.async false
set_option maxRecDepth 100000
set_option maxHeartbeats 4000000
namespace K29
open PySem PySem.Spec PyProof.Rows L2 K31
def stp (t q : Int) (S : List Int) (j : Nat) : Int := if j < S.length then S.getD j 0 else q + ((j - S.length : Nat) : Int) * t
theorem eA_is {t q : Int} : ∀ (S : List Int) (L : Nat), eA t q S L = stp t q S L
  | [], L => rfl
  | s :: _, 0 => rfl
  | s :: ss, L + 1 => by
    show eA t q ss L = _
    rw [eA_is ss L]
    unfold stp
    rw [List.length_cons, List.getD_cons_succ, Nat.add_sub_add_right]
    by_cases h : L < ss.length
    · rw [if_pos h, if_pos (by omega)]
    · rw [if_neg h, if_neg (by omega)]
theorem st_drop {d t z : Int} {S : List Int} {i L : Nat} (hi : i ≤ S.length) : st d t z S (i + (L + 1)) = stp t z (S.drop i) L := by
  unfold st stp
  rw [if_neg (by omega), List.length_drop]
  by_cases h : i + (L + 1) ≤ S.length
  · rw [if_pos h, if_pos (by omega), List.getD_eq_getElem?_getD, List.getD_eq_getElem?_getD, List.getElem?_drop, show i + (L + 1) - 1 = i + L by omega]
  · rw [if_neg h, if_neg (by omega), show i + (L + 1) - S.length - 1 = L - (S.length - i) by omega]
theorem st_at {d t z : Int} {S : List Int} {i : Nat} (hi : i < S.length) : st d t z S (i + 1) = S.getD i 0 := by
  unfold st
  rw [if_neg (by omega), if_pos (by omega), Nat.add_sub_cancel]
theorem inn_le {t q : Int} {L : Nat} : ∀ (S : List Int) (i : Nat), i < S.length → stp t q (S.drop (i + 1)) L - S.getD i 0 ≤ inn t q L S
  | [], i, h => absurd h (Nat.not_lt_zero _)
  | s :: ss, 0, _ => by
    show stp t q ss L - s ≤ max (eA t q ss L - s) (inn t q L ss)
    rw [eA_is]
    omega
  | s :: ss, i + 1, h => by
    have ih := inn_le (t := t) (q := q) (L := L) ss i (Nat.lt_of_succ_lt_succ h)
    show stp t q (ss.drop (i + 1)) L - ss.getD i 0 ≤ max (eA t q ss L - s) (inn t q L ss)
    omega
theorem inn_ex {t q : Int} {L : Nat} : ∀ (S : List Int), inn t q L S = 0 ∨ ∃ i, i < S.length ∧ inn t q L S = stp t q (S.drop (i + 1)) L - S.getD i 0
  | [] => .inl rfl
  | s :: ss => by
    have ih := inn_ex (t := t) (q := q) (L := L) ss
    have e : inn t q L (s :: ss) = max (eA t q ss L - s) (inn t q L ss) := rfl
    by_cases h : inn t q L ss ≤ eA t q ss L - s
    · refine .inr ⟨0, Nat.succ_pos _, ?_⟩
      show inn t q L (s :: ss) = stp t q ss L - s
      rw [← eA_is]
      omega
    · rcases ih with h0 | ⟨i, hi, h1⟩
      · exact .inl (by omega)
      · refine .inr ⟨i + 1, Nat.succ_lt_succ hi, ?_⟩
        show inn t q L (s :: ss) = stp t q (ss.drop (i + 1)) L - ss.getD i 0
        omega
theorem gap_is {d t z : Int} {S : List Int} {L : Nat} (d0 : 0 ≤ d) (t0 : 0 ≤ t) (z0 : 0 ≤ z) (hS : ∀ x ∈ S, 0 ≤ x) : Gap d t L z S (gapQ d t z S L) := by
  have h0 : st d t z S (0 + (L + 1)) - st d t z S 0 = eL t z L S + 2 * d := by
    rw [st_drop (Nat.zero_le _), List.drop_zero]
    show stp t z S L - (-2 * d) = eA t z S L + 2 * d
    rw [eA_is]
    omega
  have hge : 0 ≤ eL t z L S := eL_ge t0 z0 L S hS
  have hi : ∀ i, i < S.length → st d t z S (i + 1 + (L + 1)) - st d t z S (i + 1) = stp t z (S.drop (i + 1)) L - S.getD i 0 := fun i h => by
    rw [st_drop (by omega), st_at h]
  refine ⟨?_, fun i h => ?_⟩
  · unfold gapQ
    by_cases hc : inn t z L S ≤ eL t z L S + 2 * d
    · exact ⟨0, Nat.zero_le _, by rw [h0]; omega⟩
    · rcases inn_ex (t := t) (q := z) (L := L) S with he | ⟨i, h1, he⟩
      · omega
      · exact ⟨i + 1, h1, by rw [hi i h1, ← he]; omega⟩
  · unfold gapQ
    cases i with
    | zero => rw [h0]; omega
    | succ i =>
      rw [hi i (by omega)]
      have := inn_le (t := t) (q := z) (L := L) S i (by omega)
      omega
theorem sgn_in {Z p : Int} (hp : 1 ≤ p) : ∀ x ∈ sgn Z p, 1 ≤ x ∧ x ≤ Z - 1 := fun x hx => by
  unfold sgn at hx
  obtain ⟨i, hi, rfl⟩ := List.mem_map.mp hx
  have hi := List.mem_range.mp hi
  have h2 : ((i : Int) + 1) ≤ (Z - 1) / p := by omega
  have h3 : ((i : Int) + 1) * p ≤ Z - 1 := Int.le_trans (Int.mul_le_mul_of_nonneg_right h2 (by omega)) (Int.ediv_mul_le _ (by omega))
  rw [Int.add_mul, Int.one_mul] at h3
  have := Int.mul_nonneg (show (0 : Int) ≤ (i : Int) by omega) (show 0 ≤ p by omega)
  omega
theorem sgn_up {Z p : Int} (hp : 1 ≤ p) : Up Z (sgn Z p) := by
  have pw : (sgn Z p).Pairwise (· ≤ ·) := by
    unfold sgn
    refine List.pairwise_map.mpr (List.pairwise_lt_range.imp fun {a b} h => ?_)
    have := Int.mul_le_mul_of_nonneg_right (show (a : Int) ≤ (b : Int) by omega) (show 0 ≤ p by omega)
    omega
  have key : ∀ S : List Int, S.Pairwise (· ≤ ·) → (∀ x ∈ S, x ≤ Z) → Up Z S := fun S => by
    induction S with
    | nil => exact fun _ _ => True.intro
    | cons s ss ih =>
      intro h1 h2
      rw [List.pairwise_cons] at h1
      exact ⟨h2 s List.mem_cons_self, h1.1, ih h1.2 fun x hx => h2 x (List.mem_cons_of_mem _ hx)⟩
  exact key _ pw fun x hx => by
    have := sgn_in hp x hx
    omega
end K29

set_option Elab.async false
set_option maxRecDepth 100000
set_option maxHeartbeats 4000000
namespace K29
open PySem PySem.Spec PyProof.Rows L2 K31
/-- a road whose gaps are asked for -/
structure RdFit (r : RdD) (o : Int) : Prop where
  b : r.b = some o
  m1 : 1 ≤ r.m
  m2 : r.m ≤ 50
  t1 : 2 * r.m ≤ r.tu
  t2 : r.tu ≤ 200
  l1 : 1 ≤ r.lo
  l2 : r.lo ≤ 3
  q1 : 1 ≤ r.qu
  q2 : r.qu ≤ 500
  p1 : 1 ≤ r.pe
  p2 : r.pe ≤ 200
  r1 : 1 ≤ r.rs.length
  r3 : r.rs.length ≤ 3
  a1 : o ≤ r.la
  b3 : r.bs.length ≤ 3
def raceV (r : RdD) (o : Int) : Int := r.la - o + r.lo * r.tu
def rowV (r : RdD) : Option Int := if r.rs.any (fun x => decide (x > 1)) = true then some (2 * r.m + r.lo * r.tu) else none
def restV (r : RdD) : Option Int := if r.rs.length = 1 then none else some (gapQ r.m r.tu r.qu (sgn r.qu r.pe) r.lo.toNat)
def oI : Option Int → V | none => .non | some i => .int i
def optP (s : Str) : Option Int → List (Str × Int) | none => [] | some i => [(s, i)]
def gapsV (r : RdD) (o : Int) : List (Str × Int) := ("race", raceV r o) :: (optP "row" (rowV r) ++ optP "quiet" (restV r))
def greatV (r : RdD) (o : Int) : Int := max (raceV r o) (max ((rowV r).getD 0) ((restV r).getD 0))
def kindV (r : RdD) (o : Int) : Str := if raceV r o = greatV r o then "race" else if rowV r = some (greatV r o) then "row" else "quiet"
def keptV (r : RdD) (o : Int) : Bool := r.bs.all fun q => decide (greatV r o ≤ q.2.2.1 - (q.2.1 - q.1))
section
variable {P : Program} {w : World} {K : PySem.W.Frag} {mg : Str → Option Value} {base : Heap} {A : Ad}
def spRace (K : PySem.W.Frag) (A : Ad) : Sp := fun vs H Q _ => ∃ (p : Addr) (r : RdD) (o : Int), vs = [.ref p] ∧ RdAt K A H p r ∧ RdFit r o ∧ Q (.int (raceV r o)) H
theorem ok_race {f : Addr} {fd : FuncData} (F : Fun K "race_gap" "race_gap" s_race_gap f fd) (T : Txt K mg A) : FnOk P w K mg base CX0 1 f fd pm_race_gap (spRace K A) := by
  refine F.ok sc_race_gap (fun vs H Q E h => ?_) (fun cdv A' outer s H vs Q E hr h => ?_)
  · obtain ⟨_, _, _, rfl, _⟩ := h
    rfl
  · obtain ⟨p, r, o, rfl, ⟨wp, ⟨dx, Tp, hp, hT⟩, hw⟩, hf, q⟩ := h
    refine ⟨_, pss_one (ps_ret (pe_op op_add (pe_op op_sub (pe_fld (pv 0) rfl) (pe_fld (pe_fld (pv 0) rfl) rfl)) (pe_op op_mul (pe_fld (pv 0) rfl) (pe_fld (pv 0) rfl)))), ?_⟩
    obtain ⟨dw, Tw, ws, hwp, _⟩ := id hw
    rw [hf.b] at hwp
    have := hf.l1
    have := hf.l2
    have := hf.t2
    have := hf.t1
    have := hf.m1
    exact ⟨_, rfl, p, A.Road, dx, _, _, rfl, hp, T.Road.cl, T.r_last, rfl, _, rfl, p, A.Road, dx, _, _, rfl, hp, T.Road.cl, T.r_way, rfl, wp, A.Way, dw, _, _, rfl, hwp, T.Way.cl, T.w_begin, rfl, _, _, rfl, rfl, _, rfl, p, A.Road, dx, _, _, rfl, hp, T.Road.cl, T.r_losses, rfl, _, rfl, p, A.Road, dx, _, _, rfl, hp, T.Road.cl, T.r_turn, rfl, _, _, rfl, rfl, .inr ⟨by omega, by omega⟩, _, _, rfl, rfl, q⟩
def spRowG (K : PySem.W.Frag) (A : Ad) : Sp := fun vs H Q _ => ∃ (p : Addr) (r : RdD) (o : Int), vs = [.ref p] ∧ RdAt K A H p r ∧ RdFit r o ∧ ∀ H', Ext H H' → Q (oI (rowV r)) H'
theorem ok_rowG {f : Addr} {fd : FuncData} (F : Fun K "row_gap" "row_gap" s_row_gap f fd) (T : Txt K mg A) : FnOk P w K mg base CX0 1 f fd pm_row_gap (spRowG K A) := by
  refine F.ok sc_row_gap (fun vs H Q E h => ?_) (fun cdv A' outer s H vs Q E hr h => ?_)
  · obtain ⟨_, _, _, rfl, _⟩ := h
    rfl
  · obtain ⟨p, r, o, rfl, ⟨wp, ⟨dx, Tp, hp, hT⟩, hw⟩, hf, q⟩ := h
    refine ⟨_, pss_cons (ps_if (pt_not (pt_val (pe_callB (cr_any rfl) (by rfl) T.n_any (by decide +kernel) (pa_cons (pe_lc (own := [("row", 1)]) (g := gName 1) (by rfl) sc_row_gap.nd (pi_tup (pe_fld (pv 0) rfl)) (blkOk_by (own := [("row", 1)]) (N := nm_row_gap) (sc := defScope s_row_gap) (by decide +kernel)) (fun _ _ _ _ _ => pg_name (i := 1) sc_row_gap.nd rfl (Or.inl rfl)) (fun s1 H1 C1 cl fp => pts_nil) (fun s1 H1 C1 cl fp => pe_cmpR op_gt (pv 1) (pe_int) (nomark _))) pa_nil)))) (pss_one (ps_ret (pe_non))) (pss_nil))
      (pss_one (ps_ret (pe_op op_add (pe_op op_mul (pe_int) (pe_fld (pe_fld (pv 0) rfl) rfl)) (pe_op op_mul (pe_fld (pv 0) rfl) (pe_fld (pv 0) rfl))))), ?_⟩
    have h3 := hf.r3
    refine ⟨_, rfl, p, A.Road, dx, _, _, rfl, hp, T.Road.cl, T.r_rows, rfl, Tp, rfl, ⟨_, hT⟩, fun C hC => ?_⟩
    refine lc_it (walk_tup (xs := r.rs.map V.int)) (fun i H' => Ext H H' ∧ H' C = some (.lst (((r.rs.map fun x => decide (x > 1)).take i).map V.bl))) ⟨Ext.upd hC, upd_same⟩ (fun i H' _ pv => hT.ext pv.1) (fun i x H' H2 hi pv hy => ?_) (fun H1 pv => ?_)
    · obtain ⟨e2, hC2⟩ := pv
      obtain ⟨rfl, hxi⟩ := hy
      rw [List.getElem?_map] at hxi
      obtain ⟨b, hb, rfl⟩ := Option.map_eq_some_iff.mp hxi
      have hbb : (r.rs.map fun x => decide (x > 1))[i]? = some (decide (b > 1)) := by rw [List.getElem?_map, hb]; rfl
      refine ⟨rfl, _, rfl, _, _, rfl, rfl, _, hC2, small_sz (by rw [List.length_map, List.length_take, List.length_map]; omega), ext_mut e2 hC, ?_⟩
      rw [upd_same, L2.take_snoc hbb, List.map_append]; rfl
    · obtain ⟨e1, hC1⟩ := pv
      rw [List.length_map, List.take_of_length_le (by rw [List.length_map]; exact Nat.le_refl _)] at hC1
      refine ⟨C, _, rfl, SqL.of hC1, _, rfl, ?_⟩
      rw [List.any_map]
      have q := q H1 e1
      unfold rowV at q
      cases ha : r.rs.any (id ∘ fun x => decide (x > 1)) with
      | false =>
        rw [if_neg (show ¬ (r.rs.any fun x => decide (x > 1)) = true by rw [show (r.rs.any fun x => decide (x > 1)) = false from ha]; decide)] at q
        exact iteT q
      | true =>
        rw [if_pos (show (r.rs.any fun x => decide (x > 1)) = true from ha)] at q
        obtain ⟨dw, Tw, ws, hwp, _⟩ := id hw
        have hp1 := e1 _ _ hp
        have hwp1 := e1 _ _ hwp
        have := hf.l1
        have := hf.l2
        have := hf.t2
        have := hf.t1
        have := hf.m1
        refine iteF ⟨_, rfl, p, A.Road, dx, _, _, rfl, hp1, T.Road.cl, T.r_way, rfl, wp, A.Way, dw, _, _, rfl, hwp1, T.Way.cl, T.w_most, rfl, _, _, rfl, rfl, .inl ⟨by decide, by decide⟩, _, rfl, p, A.Road, dx, _, _, rfl, hp1, T.Road.cl, T.r_losses, rfl, _, rfl, p, A.Road, dx, _, _, rfl, hp1, T.Road.cl, T.r_turn, rfl, _, _, rfl, rfl, .inr ⟨by omega, by omega⟩, _, _, rfl, rfl, q⟩
def spRest (K : PySem.W.Frag) (A : Ad) : Sp := fun vs H Q _ => ∃ (p : Addr) (r : RdD) (o : Int), vs = [.ref p] ∧ RdAt K A H p r ∧ RdFit r o ∧ ∀ H', Ext H H' → Q (oI (restV r)) H'
theorem ok_rest {f : Addr} {fd : FuncData} (F : Fun K "rest_gap" "rest_gap" s_rest_gap f fd) (T : Txt K mg A) (O_lull_of : Own P w K mg base CX0 "lull_of" 7 pm_lull_of (spLullOf K A)) (O_stops_of : Own P w K mg base CX0 "stops_of" 1 pm_stops_of (spStopsOf K A)) (O_widest : Own P w K mg base CX0 "widest" 1 pm_widest (spWidest A)) (O_signs_each : Own P w K mg base CX0 "signs_each" 1 pm_signs_each (spEach A)) : FnOk P w K mg base CX0 8 f fd pm_rest_gap (spRest K A) := by
  refine F.ok sc_rest_gap (fun vs H Q E h => ?_) (fun cdv A' outer s H vs Q E hr h => ?_)
  · obtain ⟨_, _, _, rfl, _⟩ := h
    rfl
  · obtain ⟨p, r, o, rfl, hR, hf, q⟩ := h
    refine ⟨_, pss_cons (ps_set (i := 1) sc_rest_gap.nd rfl (Or.inl rfl) (pe_own O_lull_of (hr.mono (by decide)) pass0 (pa_cons (pv 0) pa_nil)))
      (pss_cons (ps_if (pt_cmpR op_isN (pv 1) (pe_non) (nomark _)) (pss_one (ps_ret (pe_non))) (pss_nil))
      (pss_one (ps_ret (pe_own O_widest (hr.mono (by decide)) pass0 (pa_cons (pv 1) (pa_cons (pe_own O_stops_of (hr.mono (by decide)) pass0 (pa_cons (pv 1) (pa_cons (pe_own O_signs_each (hr.mono (by decide)) pass0 (pa_cons (pv 1) (pa_cons (pe_fld (pv 0) rfl) pa_nil))) pa_nil))) pa_nil)))))), ?_⟩
    have := hf.m1
    have := hf.t1
    unfold restV at q
    refine ⟨_, rfl, p, r, rfl, hR, hf.m1, hf.m2, hf.t1, hf.t2, hf.l1, hf.l2, hf.q1, hf.q2, fun h1 => ?_, fun h1 l H1 e1 hl => ?_⟩
    · rw [if_pos h1] at q
      refine ⟨_, rfl, rfl, _, rfl, ?_⟩
      rw [decide_eq_true rfl]
      exact iteT (q _ Ext.rfl')
    · rw [if_neg h1] at q
      obtain ⟨L, hL⟩ : ∃ L : Nat, r.lo = (L : Int) := ⟨r.lo.toNat, by have := hf.l1; omega⟩
      rw [hL] at hl q
      have hL3 : L ≤ 3 := by have := hf.l2; omega
      have hL1 : 1 ≤ L := by have := hf.l1; omega
      obtain ⟨wp, ⟨dx, Tp, hp, hT⟩, hw⟩ := hR.ext e1
      refine ⟨_, rfl, rfl, _, rfl, ?_⟩
      rw [decide_eq_false (fun z => by cases z)]
      have Z : Sizes r.m r.tu (L : Int) r.qu := ⟨hf.m1, hf.m2, hf.t1, hf.t2, by omega, by omega, hf.q1, hf.q2⟩
      refine iteF ⟨_, rfl, _, rfl, _, rfl, _, rfl, p, A.Road, dx, _, _, rfl, hp, T.Road.cl, T.r_period, rfl, l, r.pe, r.m, r.tu, (L : Int), r.qu, rfl, hl, Z, hf.p1, hf.p2, fun q1 H2 e2 hq1 => ?_⟩
      have hss := sgn_short (p := r.pe) hf.p1 hf.q1 hf.q2
      refine ⟨l, q1, r.m, r.tu, L, r.qu, sgn r.qu r.pe, rfl, hl.ext e2, .inl (SqT.of hq1), hL3, by omega, by omega, hf.t2, fun q3 H3 e3 hq3 => ?_⟩
      refine ⟨l, q3, r.m, r.tu, L, r.qu, _, rfl, (hl.ext e2).ext e3, hq3, hL3, by rw [stL_len]; omega, by rw [stL_len]; omega, fun m H4 e4 hm => ?_⟩
      have hG := gap_is (d := r.m) (t := r.tu) (z := r.qu) (S := sgn r.qu r.pe) (L := L) (by omega) (by omega) (by have := hf.q1; omega) (fun x hx => by have := sgn_in hf.p1 x hx; omega)
      rw [gap_one (isW_gap.mp hm) hG]
      have := q H4 (((e1.trans e2).trans e3).trans e4)
      rw [Int.toNat_natCast] at this
      exact this
end
end K29

set_option Elab.async false
set_option maxRecDepth 100000
set_option maxHeartbeats 4000000
namespace K29
open PySem PySem.Spec PyProof.Rows L2 K31
def ExtP (H H1 H2 : Hp) : Prop := ∀ a o, H1 a = some o → (H a ≠ none ∨ ∀ xs, o ≠ .lst xs) → H2 a = some o
theorem ExtP.of {H H1 H2 : Hp} (e : Ext H1 H2) : ExtP H H1 H2 := fun a o h _ => e a o h
theorem ExtP.lst {H H1 : Hp} {l : Addr} {xs : List V} {o : HO} (hn : H l = none) (hl : H1 l = some (.lst xs)) : ExtP H H1 (upd H1 l o) := fun a o' h c => by
  by_cases hal : a = l
  · subst hal
    rw [hl] at h; cases h
    rcases c with c | c
    · exact absurd hn c
    · exact absurd rfl (c xs)
  · rw [upd_ne hal]; exact h
def TupsAt {α : Type} (c : α → List V) (L : List α) (ys : List V) (H : Hp) : Prop := ∀ (i : Nat) (v : V), ys[i]? = some v → ∃ (t : Addr) (ps : α), v = V.ref t ∧ L[i]? = some ps ∧ H t = some (.tup (c ps))
theorem TupsAt.keep {α : Type} {c : α → List V} {L : List α} {ys : List V} {H0 H H' : Hp} (h : TupsAt c L ys H) (e : ExtP H0 H H') : TupsAt c L ys H' := fun i v hv => by
  obtain ⟨t, ps, a, b, c⟩ := h i v hv
  exact ⟨t, ps, a, b, e _ _ c (.inr fun _ z => nomatch z)⟩
theorem TupsAt.snoc {α : Type} {c : α → List V} {L : List α} {ys : List V} {H : Hp} {t : Addr} {ps : α} (h : TupsAt c L ys H) (hp : L[ys.length]? = some ps) (ht : H t = some (.tup (c ps))) : TupsAt c L (ys ++ [.ref t]) H := fun i v hv => by
  by_cases hi : i < ys.length
  · rw [List.getElem?_append_left hi] at hv
    exact h i v hv
  · have hl := (List.getElem?_eq_some_iff.mp hv).1
    rw [List.length_append] at hl
    have hl : i < ys.length + 1 := hl
    obtain rfl : i = ys.length := by omega
    rw [List.getElem?_append_right (Nat.le_refl _), Nat.sub_self] at hv
    cases hv
    exact ⟨t, ps, rfl, hp, ht⟩
def pairS (x : Str × Int) : List V := [.str x.1, .int x.2]
def L3 (r : RdD) (o : Int) : List (Str × Option Int) := [("race", some (raceV r o)), ("row", rowV r), ("quiet", restV r)]
def gps (L : List (Str × Option Int)) : List (Str × Int) := L.flatMap fun x => optP x.1 x.2
theorem gps_L3 (r : RdD) (o : Int) : gps (L3 r o) = gapsV r o := by simp [gps, L3, gapsV, optP]
theorem gps_snoc {L : List (Str × Option Int)} {i : Nat} {x : Str × Option Int} (h : L[i]? = some x) : gps (L.take (i + 1)) = gps (L.take i) ++ optP x.1 x.2 := by
  rw [L2.take_snoc h]
  simp [gps]
theorem gps_at {L : List (Str × Option Int)} {i : Nat} {w : Str} {g : Int} (h : L[i]? = some (w, some g)) : (gps L)[(gps (L.take i)).length]? = some (w, g) := by
  obtain ⟨hl, he⟩ := List.getElem?_eq_some_iff.mp h
  have e : L = L.take i ++ (w, some g) :: L.drop (i + 1) := by
    rw [← he, ← List.drop_eq_getElem_cons hl, List.take_append_drop]
  have e2 : gps L = gps (L.take i) ++ ((w, g) :: gps (L.drop (i + 1))) := by
    conv => lhs; rw [e]
    simp [gps, optP]
  rw [e2, List.getElem?_append_right (Nat.le_refl _), Nat.sub_self]; rfl
theorem race_nn {r : RdD} {o : Int} (h : RdFit r o) : 0 ≤ raceV r o := by
  unfold raceV
  have := h.a1
  have := Int.mul_nonneg (show 0 ≤ r.lo by have := h.l1; omega) (show 0 ≤ r.tu by have := h.t1; have := h.m1; omega)
  omega
theorem great_is {r : RdD} {o m : Int} (h : RdFit r o) (h1 : m ∈ (gapsV r o).map (·.2)) (h2 : ∀ y ∈ (gapsV r o).map (·.2), y ≤ m) : m = greatV r o := by
  have h0 := race_nn h
  unfold gapsV at h1 h2
  unfold greatV
  cases hr : rowV r <;> cases hs : restV r <;> simp [hr, hs, optP] at h1 h2 ⊢ <;> omega
theorem great_in {r : RdD} {o : Int} (h : RdFit r o) : ∃ ws, ((gapsV r o).filter fun x => decide (x.2 = greatV r o)).map (·.1) = kindV r o :: ws := by
  have h0 := race_nn h
  unfold gapsV kindV
  by_cases h1 : raceV r o = greatV r o
  · rw [if_pos h1, List.filter_cons, if_pos (decide_eq_true h1)]
    exact ⟨_, rfl⟩
  · rw [if_neg h1, List.filter_cons, if_neg (by rw [decide_eq_true_eq]; exact h1)]
    cases hr : rowV r with
    | none =>
      cases hs : restV r with
      | none => exact absurd (show raceV r o = greatV r o by unfold greatV; rw [hr, hs]; simp; omega) h1
      | some b =>
        have hb : b = greatV r o := by unfold greatV at h1 ⊢; rw [hr, hs] at h1 ⊢; simp at h1 ⊢; omega
        refine ⟨[], ?_⟩
        simp [optP, hb]
    | some a =>
      by_cases ha : a = greatV r o
      · rw [if_pos (by rw [ha])]
        show ∃ ws, List.map (·.1) (List.filter (fun x => decide (x.2 = greatV r o)) ((((("row" : Str), a) : Str × Int)) :: optP "quiet" (restV r))) = ("row" : Str) :: ws
        rw [List.filter_cons, if_pos (decide_eq_true ha)]
        exact ⟨_, rfl⟩
      · rw [if_neg (fun e => ha (Option.some.inj e))]
        cases hs : restV r with
        | none => exact absurd (show raceV r o = greatV r o by unfold greatV at ha ⊢; rw [hr, hs] at ha ⊢; simp at ha ⊢; omega) h1
        | some b =>
          have hb : b = greatV r o := by unfold greatV at h1 ha ⊢; rw [hr, hs] at h1 ha ⊢; simp at h1 ha ⊢; omega
          refine ⟨[], ?_⟩
          show List.map (·.1) (List.filter (fun x => decide (x.2 = greatV r o)) [((("row" : Str), a) : Str × Int), (("quiet" : Str), b)]) = [("quiet" : Str)]
          rw [List.filter_cons, if_neg (by rw [decide_eq_true_eq]; exact ha), List.filter_cons, if_pos (decide_eq_true hb)]; rfl
section
variable {P : Program} {w : World} {K : PySem.W.Frag} {mg : Str → Option Value} {base : Heap} {A : Ad}
def spTold (K : PySem.W.Frag) (A : Ad) : Sp := fun vs H Q _ => ∃ (p : Addr) (r : RdD) (o : Int), vs = [.ref p] ∧ RdAt K A H p r ∧ RdFit r o ∧ ∀ l zs H', Ext H H' → H' l = some (.lst zs) → zs.length = (gapsV r o).length → TupsAt pairS (gapsV r o) zs H' → Q (.ref l) H'
theorem ok_told {f : Addr} {fd : FuncData} (F : Fun K "gaps_told" "gaps_told" s_gaps_told f fd) (T : Txt K mg A) (O_race_gap : Own P w K mg base CX0 "race_gap" 1 pm_race_gap (spRace K A)) (O_row_gap : Own P w K mg base CX0 "row_gap" 1 pm_row_gap (spRowG K A)) (O_rest_gap : Own P w K mg base CX0 "rest_gap" 8 pm_rest_gap (spRest K A)) : FnOk P w K mg base CX0 9 f fd pm_gaps_told (spTold K A) := by
  refine F.ok sc_gaps_told (fun vs H Q E h => ?_) (fun cdv A' outer s H vs Q E hr h => ?_)
  · obtain ⟨_, _, _, rfl, _⟩ := h
    rfl
  · obtain ⟨p, r, o, rfl, hR, hf, q⟩ := h
    refine ⟨_, pss_cons (ps_set (i := 1) sc_gaps_told.nd rfl (Or.inl rfl) (pe_lst (pa_cons (pe_tup (pa_cons (pe_str) (pa_cons (pe_own O_race_gap (hr.mono (by decide)) pass0 (pa_cons (pv 0) pa_nil)) pa_nil))) (pa_cons (pe_tup (pa_cons (pe_str) (pa_cons (pe_own O_row_gap (hr.mono (by decide)) pass0 (pa_cons (pv 0) pa_nil)) pa_nil))) (pa_cons (pe_tup (pa_cons (pe_str) (pa_cons (pe_own O_rest_gap (hr.mono (by decide)) pass0 (pa_cons (pv 0) pa_nil)) pa_nil))) pa_nil)))))
      (pss_one (ps_ret (pe_lc (own := [("word", 2), ("gap", 3)]) (g := gTup K 2 (gCons (gName 2) (gCons (gName 3) (gNil)))) (by rfl) sc_gaps_told.nd (pi_list (pv 1)) (blkOk_by (own := [("word", 2), ("gap", 3)]) (N := nm_gaps_told) (sc := defScope s_gaps_told) (by decide +kernel)) (fun _ _ _ _ _ => pg_tup rfl (pgs_cons (pg_name (i := 2) sc_gaps_told.nd rfl (Or.inl rfl)) (pgs_cons (pg_name (i := 3) sc_gaps_told.nd rfl (Or.inl rfl)) (pgs_nil)))) (fun s1 H1 C1 cl fp => pts_one (pt_cmpR op_notN (pv 3) (pe_non) (nomark _))) (fun s1 H1 C1 cl fp => pe_tup (pa_cons (pv 2) (pa_cons (pv 3) pa_nil)))))), ?_⟩
    refine ⟨_, rfl, p, r, o, rfl, hR, hf, by show 2 ≤ sizeLine; decide, fun t1 h1 => ?_⟩
    have e1 := Ext.upd (o := .tup [V.str "race", .int (raceV r o)]) h1
    have m1 := upd_same (a := t1) (o := .tup [V.str "race", .int (raceV r o)]) (H := H)
    generalize upd H t1 (.tup [V.str "race", .int (raceV r o)]) = J1 at e1 m1 ⊢
    refine ⟨_, rfl, p, r, o, rfl, hR.ext e1, hf, fun J2 e2 => ⟨by show 2 ≤ sizeLine; decide, fun t2 h2 => ?_⟩⟩
    have e3 := Ext.upd (o := .tup [V.str "row", oI (rowV r)]) h2
    have m2 := upd_same (a := t2) (o := .tup [V.str "row", oI (rowV r)]) (H := J2)
    generalize upd J2 t2 (.tup [V.str "row", oI (rowV r)]) = J3 at e3 m2 ⊢
    have e13 := (e1.trans e2).trans e3
    refine ⟨_, rfl, p, r, o, rfl, hR.ext e13, hf, fun J4 e4 => ⟨by show 2 ≤ sizeLine; decide, fun t3 h3 => ?_⟩⟩
    have e5 := Ext.upd (o := .tup [V.str "quiet", oI (restV r)]) h3
    have m3 := upd_same (a := t3) (o := .tup [V.str "quiet", oI (restV r)]) (H := J4)
    generalize upd J4 t3 (.tup [V.str "quiet", oI (restV r)]) = J5 at e5 m3 ⊢
    refine ⟨by show 3 ≤ sizeLine; decide, fun l hl => ?_⟩
    have e6 := Ext.upd (o := .lst [V.ref t1, .ref t2, .ref t3]) hl
    have ml := upd_same (a := l) (o := .lst [V.ref t1, .ref t2, .ref t3]) (H := J5)
    generalize upd J5 l (.lst [V.ref t1, .ref t2, .ref t3]) = J6 at e6 ml ⊢
    have k1 := ((((e2.trans e3).trans e4).trans e5).trans e6) _ _ m1
    have k2 := (((e4).trans e5).trans e6) _ _ m2
    have k3 := e6 _ _ m3
    have e06 := ((e13.trans e4).trans e5).trans e6
    have hat : ∀ (i : Nat) (x : V), [V.ref t1, .ref t2, .ref t3][i]? = some x → ∃ (t : Addr) (wd : Str) (v : Option Int), x = V.ref t ∧ (L3 r o)[i]? = some (wd, v) ∧ J6 t = some (.tup [.str wd, oI v]) := fun i x hx => by
      rcases i with _ | _ | _ | i
      · cases hx; exact ⟨t1, _, some (raceV r o), rfl, rfl, k1⟩
      · cases hx; exact ⟨t2, _, rowV r, rfl, rfl, k2⟩
      · cases hx; exact ⟨t3, _, restV r, rfl, rfl, k3⟩
      · cases hx
    refine ⟨_, rfl, l, rfl, ⟨_, SqL.of ml⟩, fun C hC => ?_⟩
    refine lc_it (walk_list (xs := [V.ref t1, .ref t2, .ref t3])) (fun i H' => ∃ zs, Ext J6 H' ∧ H' C = some (.lst zs) ∧ zs.length = (gps ((L3 r o).take i)).length ∧ TupsAt pairS (gapsV r o) zs H') ⟨[], Ext.upd hC, upd_same, rfl, fun i v hv => (by cases hv)⟩ (fun i H' _ pv => by obtain ⟨_, e, _⟩ := pv; exact SqL.of (e _ _ ml)) (fun i x H' H2 hi pv hy => ?_) (fun H' pv => ?_)
    · obtain ⟨zs, e7, hCz, hzl, hzt⟩ := pv
      obtain ⟨rfl, hx⟩ := hy
      obtain ⟨t, wd, v, rfl, hL, ht⟩ := hat i x hx
      have hg := gps_snoc hL
      refine ⟨t, _, rfl, SqT.of (e7 _ _ ht), rfl, _, _, rfl, _, _, rfl, rfl, rfl, _, rfl, rfl, ?_⟩
      refine ⟨_, rfl, ?_⟩
      cases v with
      | none =>
        rw [decide_eq_true (show oI none = V.non from rfl)]
        exact iteF ⟨zs, e7, hCz, by rw [hg, hzl]; show _ = (gps _ ++ []).length; rw [List.append_nil], hzt⟩
      | some g =>
        rw [decide_eq_false (show ¬ oI (some g) = V.non from fun z => by cases z)]
        refine iteT ⟨_, rfl, _, rfl, by show 2 ≤ sizeLine; decide, fun t9 h9 => ?_⟩
        have e9 := Ext.upd (o := .tup [V.str wd, .int g]) h9
        have m9 : upd H2 t9 (.tup [V.str wd, oI (some g)]) t9 = some (.tup (pairS (wd, g))) := upd_same
        have hC9 := e9 _ _ hCz
        have hz3 : zs.length ≤ 3 := by
          have h1 : zs.length < (gps (L3 r o)).length := by
            rw [hzl]
            exact (List.getElem?_eq_some_iff.mp (gps_at hL)).1
          rw [gps_L3] at h1
          have h2 : (gapsV r o).length ≤ 3 := by
            unfold gapsV
            cases rowV r <;> cases restV r <;> simp [optP]
          omega
        refine ⟨zs, hC9, small_sz (by omega), zs ++ [.ref t9], ext_mut (e7.trans e9) hC, upd_same, by rw [hg, List.length_append, hzl, List.length_append]; rfl, ?_⟩
        refine (TupsAt.snoc (hzt.keep (ExtP.of (H := H2) e9)) ?_ m9).keep (ExtP.lst (H := fun _ => none) rfl hC9)
        rw [hzl, ← gps_L3]
        exact gps_at hL
    · obtain ⟨zs, e7, hCz, hzl, hzt⟩ := pv
      rw [show (L3 r o).take [V.ref t1, .ref t2, .ref t3].length = L3 r o from rfl, gps_L3] at hzl
      exact q C zs H' (e06.trans e7) hCz hzl hzt
def spGreat (K : PySem.W.Frag) (A : Ad) : Sp := fun vs H Q _ => ∃ (p : Addr) (r : RdD) (o : Int), vs = [.ref p] ∧ RdAt K A H p r ∧ RdFit r o ∧ ∀ H', Ext H H' → Q (.int (greatV r o)) H'
theorem gaps_len (r : RdD) (o : Int) : 1 ≤ (gapsV r o).length ∧ (gapsV r o).length ≤ 3 := by
  unfold gapsV
  cases rowV r <;> cases restV r <;> simp [optP]
theorem ok_great {f : Addr} {fd : FuncData} (F : Fun K "greatest_gap" "greatest_gap" s_greatest_gap f fd) (T : Txt K mg A) (O_gaps_told : Own P w K mg base CX0 "gaps_told" 9 pm_gaps_told (spTold K A)) : FnOk P w K mg base CX0 10 f fd pm_greatest_gap (spGreat K A) := by
  refine F.ok sc_greatest_gap (fun vs H Q E h => ?_) (fun cdv A' outer s H vs Q E hr h => ?_)
  · obtain ⟨_, _, _, rfl, _⟩ := h
    rfl
  · obtain ⟨p, r, o, rfl, hR, hf, q⟩ := h
    refine ⟨_, pss_one (ps_ret (pe_callB (cr_max rfl) (by rfl) T.n_max (by decide +kernel) (pa_cons (pe_lc (own := [("_", 1), ("gap", 2)]) (g := gTup K 2 (gCons (gName 1) (gCons (gName 2) (gNil)))) (by rfl) sc_greatest_gap.nd (pi_list (pe_own O_gaps_told (hr.mono (by decide)) pass0 (pa_cons (pv 0) pa_nil))) (blkOk_by (own := [("_", 1), ("gap", 2)]) (N := nm_greatest_gap) (sc := defScope s_greatest_gap) (by decide +kernel)) (fun _ _ _ _ _ => pg_tup rfl (pgs_cons (pg_name (i := 1) sc_greatest_gap.nd rfl (Or.inl rfl)) (pgs_cons (pg_name (i := 2) sc_greatest_gap.nd rfl (Or.inl rfl)) (pgs_nil)))) (fun s1 H1 C1 cl fp => pts_nil) (fun s1 H1 C1 cl fp => pe_callTy call_int1 (by rfl) T.n_int (by decide +kernel) (pa_cons (pv 2) pa_nil))) pa_nil))), ?_⟩
    obtain ⟨hg1, hg3⟩ := gaps_len r o
    refine ⟨_, rfl, p, r, o, rfl, hR, hf, fun l zs H1 e1 hl hzl hzt => ⟨l, rfl, ⟨_, SqL.of hl⟩, fun C hC => ?_⟩⟩
    refine lc_it (walk_list (xs := zs)) (fun i H' => Ext H1 H' ∧ H' C = some (.lst ((((gapsV r o).map (·.2)).take i).map V.int))) ⟨Ext.upd hC, upd_same⟩ (fun i H' _ pv => SqL.of (pv.1 _ _ hl)) (fun i x H' H2 hi pv hy => ?_) (fun H' pv => ?_)
    · obtain ⟨e2, hCz⟩ := pv
      obtain ⟨rfl, hx⟩ := hy
      replace hx : zs[i]? = some x := hx
      obtain ⟨t, c, rfl, hci, ht⟩ := hzt i x hx
      have hgi : ((gapsV r o).map (·.2))[i]? = some c.2 := by rw [List.getElem?_map, hci]; rfl
      refine ⟨t, _, rfl, SqT.of (e2 _ _ ht), rfl, _, _, rfl, _, _, rfl, rfl, rfl, _, rfl, .inl ⟨_, rfl, _, hCz, small_sz (by rw [List.length_map, List.length_take, List.length_map]; omega), ext_mut e2 hC, ?_⟩⟩
      rw [upd_same, L2.take_snoc hgi, List.map_append]; rfl
    · obtain ⟨e2, hCz⟩ := pv
      rw [List.take_of_length_le (by rw [List.length_map]; omega)] at hCz
      refine ⟨C, (gapsV r o).map (·.2), rfl, SqL.of hCz, by rw [List.length_map]; omega, fun m hm hmax => ?_⟩
      rw [great_is hf hm hmax]
      exact q _ (e1.trans e2)
def spKind (K : PySem.W.Frag) (A : Ad) : Sp := fun vs H Q _ => ∃ (p : Addr) (r : RdD) (o : Int), vs = [.ref p] ∧ RdAt K A H p r ∧ RdFit r o ∧ ∀ H', Ext H H' → Q (.str (kindV r o)) H'
theorem ok_kind {f : Addr} {fd : FuncData} (F : Fun K "gap_kind" "gap_kind" s_gap_kind f fd) (T : Txt K mg A) (O_gaps_told : Own P w K mg base CX0 "gaps_told" 9 pm_gaps_told (spTold K A)) (O_greatest_gap : Own P w K mg base CX0 "greatest_gap" 10 pm_greatest_gap (spGreat K A)) : FnOk P w K mg base CX0 11 f fd pm_gap_kind (spKind K A) := by
  refine F.ok sc_gap_kind (fun vs H Q E h => ?_) (fun cdv A' outer s H vs Q E hr h => ?_)
  · obtain ⟨_, _, _, rfl, _⟩ := h
    rfl
  · obtain ⟨p, r, o, rfl, hR, hf, q⟩ := h
    refine ⟨_, pss_cons (ps_set (i := 1) sc_gap_kind.nd rfl (Or.inr rfl) (pe_own O_greatest_gap (hr.mono (by decide)) pass0 (pa_cons (pv 0) pa_nil)))
      (pss_cons (ps_setLc (i := 2) (own := [("word", 3), ("gap", 4)]) (g := gTup K 2 (gCons (gName 3) (gCons (gName 4) (gNil)))) (by rfl) sc_gap_kind.nd rfl rfl (sw_true rfl rfl rfl (by decide +kernel)) (pi_list (pe_own O_gaps_told (hr.mono (by decide)) pass0 (pa_cons (pv 0) pa_nil))) (blkOk_by (own := [("word", 3), ("gap", 4)]) (N := nm_gap_kind) (sc := defScope s_gap_kind) (by decide +kernel)) (fun _ _ _ _ _ => pg_tup rfl (pgs_cons (pg_name (i := 3) sc_gap_kind.nd rfl (Or.inl rfl)) (pgs_cons (pg_name (i := 4) sc_gap_kind.nd rfl (Or.inl rfl)) (pgs_nil)))) (fun s1 H1 C1 cl fp => pts_one (pt_cmpR op_eq (pv 4) (pv 1) (nomark _))) (fun s1 H1 C1 cl fp => pv 3))
      (pss_one (ps_ret (pe_ix ix_list (pv 2) (pe_int) (fun _ _ => rfl))))), ?_⟩
    obtain ⟨hg1, hg3⟩ := gaps_len r o
    refine ⟨_, rfl, p, r, o, rfl, hR, hf, fun H0 e0 => ?_⟩
    refine ⟨_, rfl, p, r, o, rfl, hR.ext e0, hf, fun l zs H1 e1 hl hzl hzt => ⟨l, rfl, ⟨_, SqL.of hl⟩, fun C hC => ?_⟩⟩
    refine lc_it (walk_list (xs := zs)) (fun i H' => Ext H1 H' ∧ H' C = some (.lst (((((gapsV r o).take i).filter fun x => decide (x.2 = greatV r o)).map (·.1)).map V.str))) ⟨Ext.upd hC, upd_same⟩ (fun i H' _ pv => SqL.of (pv.1 _ _ hl)) (fun i x H' H2 hi pv hy => ?_) (fun H' pv => ?_)
    · obtain ⟨e2, hCz⟩ := pv
      obtain ⟨rfl, hx⟩ := hy
      replace hx : zs[i]? = some x := hx
      obtain ⟨t, c, rfl, hci, ht⟩ := hzt i x hx
      have hlen := List.length_filter_le (fun x : Str × Int => decide (x.2 = greatV r o)) ((gapsV r o).take i)
      rw [List.length_take] at hlen
      refine ⟨t, _, rfl, SqT.of (e2 _ _ ht), rfl, _, _, rfl, _, _, rfl, rfl, rfl, _, rfl, _, rfl, rfl, _, rfl, ?_⟩
      rw [dvi]
      by_cases hc : c.2 = greatV r o
      · rw [decide_eq_true hc]
        refine iteT ⟨_, rfl, _, hCz, small_sz (by rw [List.length_map, List.length_map]; omega), ext_mut e2 hC, ?_⟩
        rw [upd_same, L2.take_snoc hci, List.filter_append, List.filter_cons, if_pos (decide_eq_true hc), List.map_append, List.map_append]; rfl
      · rw [decide_eq_false hc]
        refine iteF ⟨e2, ?_⟩
        rw [hCz, L2.take_snoc hci, List.filter_append, List.filter_cons, if_neg (by rw [decide_eq_true_eq]; exact hc)]
        simp
    · obtain ⟨e2, hCz⟩ := pv
      rw [List.take_of_length_le (by omega)] at hCz
      obtain ⟨ws, hws⟩ := great_in hf
      rw [hws] at hCz
      exact ⟨_, rfl, C, _, 0, .str (kindV r o), rfl, rfl, SqL.of hCz, atI_nat (j := 0) rfl, q _ ((e0.trans e1).trans e2)⟩
def spBoxT (K : PySem.W.Frag) : Sp := fun vs H Q _ => ∃ (t : Addr) (a b c d : Int), vs = [.ref t] ∧ SqT K H t [.int a, .int b, .int c, .int d] ∧ Q (.int (b - a)) H
theorem ok_spreadT {f : Addr} {fd : FuncData} (F : Fun K "spread_of" "spread_of" s_spread_of f fd) : FnOk P w K mg base CX0 1 f fd pm_spread_of (spBoxT K) := by
  refine F.ok sc_spread_of (fun vs H Q E h => ?_) (fun cdv A' outer s H vs Q E hr h => ?_)
  · obtain ⟨_, _, _, _, _, rfl, _⟩ := h
    rfl
  · obtain ⟨t, a, b, c, d, rfl, ht, q⟩ := h
    refine ⟨_, pss_one (ps_ret (pe_op op_sub (pe_ix ix_tup (pv 0) (pe_int) (fun _ _ => rfl)) (pe_ix ix_tup (pv 0) (pe_int) (fun _ _ => rfl)))), ?_⟩
    exact ⟨_, rfl, t, _, 1, .int b, rfl, rfl, ht, rfl, _, rfl, t, _, 0, .int a, rfl, rfl, ht, rfl, _, _, rfl, rfl, q⟩
def spSlackT (K : PySem.W.Frag) : Sp := fun vs H Q _ => ∃ (t : Addr) (a b c d : Int), vs = [.ref t] ∧ SqT K H t [.int a, .int b, .int c, .int d] ∧ Q (.int (c - (b - a))) H
theorem ok_slackT {f : Addr} {fd : FuncData} (F : Fun K "slack_of" "slack_of" s_slack_of f fd) (O_spread_of : Own P w K mg base CX0 "spread_of" 1 pm_spread_of (spBoxT K)) : FnOk P w K mg base CX0 2 f fd pm_slack_of (spSlackT K) := by
  refine F.ok sc_slack_of (fun vs H Q E h => ?_) (fun cdv A' outer s H vs Q E hr h => ?_)
  · obtain ⟨_, _, _, _, _, rfl, _⟩ := h
    rfl
  · obtain ⟨t, a, b, c, d, rfl, ht, q⟩ := h
    refine ⟨_, pss_one (ps_ret (pe_op op_sub (pe_ix ix_tup (pv 0) (pe_int) (fun _ _ => rfl)) (pe_own O_spread_of (hr.mono (by decide)) pass0 (pa_cons (pv 0) pa_nil)))), ?_⟩
    exact ⟨_, rfl, t, _, 2, .int c, rfl, rfl, ht, rfl, _, rfl, t, a, b, c, d, rfl, ht, _, _, rfl, rfl, q⟩
theorem dps_bx {H : Hp} : ∀ {xs : List V} {bs : List Bx} {i : Nat} {x : V}, DpAll K H xs (bs.map bxD) → xs[i]? = some x → ∃ q, bs[i]? = some q ∧ Dp K H x (bxD q)
  | _ :: _, q :: _, 0, _, .cons h _, hx => by cases hx; exact ⟨q, rfl, h⟩
  | _ :: _, _ :: bs, i + 1, _, .cons _ h, hx => dps_bx (bs := bs) (i := i) h hx
  | [], _, _, _, _, hx => by cases hx
theorem dps_int4 {H : Hp} {xs : List V} {a b c d : Int} (h : DpAll K H xs [.int a, .int b, .int c, .int d]) : xs = [.int a, .int b, .int c, .int d] := by
  cases h with
  | cons h1 h => cases h with
    | cons h2 h => cases h with
      | cons h3 h => cases h with
        | cons h4 h =>
          cases h
          rw [dp_int h1, dp_int h2, dp_int h3, dp_int h4]
def spKept (K : PySem.W.Frag) (A : Ad) : Sp := fun vs H Q _ => ∃ (p : Addr) (r : RdD) (o : Int), vs = [.ref p] ∧ RdAt K A H p r ∧ RdFit r o ∧ ∀ H', Ext H H' → Q (.bl (keptV r o)) H'
theorem ok_kept {f : Addr} {fd : FuncData} (F : Fun K "is_kept" "is_kept" s_is_kept f fd) (T : Txt K mg A) (O_slack_of : Own P w K mg base CX0 "slack_of" 2 pm_slack_of (spSlackT K)) (O_greatest_gap : Own P w K mg base CX0 "greatest_gap" 10 pm_greatest_gap (spGreat K A)) : FnOk P w K mg base CX0 11 f fd pm_is_kept (spKept K A) := by
  refine F.ok sc_is_kept (fun vs H Q E h => ?_) (fun cdv A' outer s H vs Q E hr h => ?_)
  · obtain ⟨_, _, _, rfl, _⟩ := h
    rfl
  · obtain ⟨p, r, o, rfl, hR, hf, q⟩ := h
    refine ⟨_, pss_cons (ps_set (i := 1) sc_is_kept.nd rfl (Or.inr rfl) (pe_own O_greatest_gap (hr.mono (by decide)) pass0 (pa_cons (pv 0) pa_nil)))
      (pss_one (ps_ret (pe_callB (cr_all rfl) (by rfl) T.n_all (by decide +kernel) (pa_cons (pe_lc (own := [("box", 2)]) (g := gName 2) (by rfl) sc_is_kept.nd (pi_tup (pe_fld (pe_fld (pv 0) rfl) rfl)) (blkOk_by (own := [("box", 2)]) (N := nm_is_kept) (sc := defScope s_is_kept) (by decide +kernel)) (fun _ _ _ _ _ => pg_name (i := 2) sc_is_kept.nd rfl (Or.inl rfl)) (fun s1 H1 C1 cl fp => pts_nil) (fun s1 H1 C1 cl fp => pe_cmpR op_le (pv 1) (pe_own O_slack_of (hr.mono (by decide)) pass0 (pa_cons (pv 2) pa_nil)) (nomark _))) pa_nil)))), ?_⟩
    have hb3 := hf.b3
    refine ⟨_, rfl, p, r, o, rfl, hR, hf, fun H0 e0 => ?_⟩
    obtain ⟨wp, ⟨dx, Tp, hp, hT⟩, hw⟩ := hR.ext e0
    obtain ⟨dw, Tw, ws, hwp, hTw, hws⟩ := id hw
    refine ⟨_, rfl, p, A.Road, dx, _, _, rfl, hp, T.Road.cl, T.r_way, rfl, wp, A.Way, dw, _, _, rfl, hwp, T.Way.cl, T.w_boxes, rfl, Tw, rfl, ⟨_, hTw⟩, fun C hC => ?_⟩
    refine lc_it (walk_tup (xs := ws)) (fun i H' => Ext H0 H' ∧ H' C = some (.lst (((r.bs.map fun q => decide (greatV r o ≤ q.2.2.1 - (q.2.1 - q.1))).take i).map V.bl))) ⟨Ext.upd hC, upd_same⟩ (fun i H' _ pv => hTw.ext pv.1) (fun i x H' H2 hi pv hy => ?_) (fun H' pv => ?_)
    · obtain ⟨e2, hC2⟩ := pv
      obtain ⟨rfl, hxi⟩ := hy
      obtain ⟨b, hbi, hbd⟩ := dps_bx hws hxi
      obtain ⟨t, xs, ds, rfl, ht, ha, hd⟩ := dp_tup hbd rfl
      injection hd with hd
      subst hd
      obtain rfl := dps_int4 ha
      have hbb : (r.bs.map fun q => decide (greatV r o ≤ q.2.2.1 - (q.2.1 - q.1)))[i]? = some (decide (greatV r o ≤ b.2.2.1 - (b.2.1 - b.1))) := by rw [List.getElem?_map, hbi]; rfl
      have hlt := (List.getElem?_eq_some_iff.mp hbi).1
      refine ⟨rfl, _, rfl, _, rfl, t, _, _, _, _, rfl, ht.ext e2, _, _, rfl, rfl, _, hC2, small_sz (by rw [List.length_map, List.length_take, List.length_map]; omega), ext_mut e2 hC, ?_⟩
      rw [upd_same, L2.take_snoc hbb, List.map_append]; rfl
    · obtain ⟨e2, hC2⟩ := pv
      rw [List.take_of_length_le (by rw [List.length_map, ← List.length_map (f := bxD), ← dps_len hws]; exact Nat.le_refl _)] at hC2
      refine ⟨C, _, rfl, SqL.of hC2, ?_⟩
      rw [List.all_map]
      exact q _ (e0.trans e2)
end
end K29

set_option Elab.async false
set_option maxRecDepth 100000
set_option maxHeartbeats 4000000
namespace K29
open PySem PySem.Spec PyProof.Rows L2 K31
section
variable {P : Program} {w : World} {K : PySem.W.Frag} {mg : Str → Option Value} {base : Heap} {A : Ad}
def spLStops (K : PySem.W.Frag) : Sp := fun vs H Q _ => ∃ (a b : Addr) (d t : Int) (L : Nat) (z : Int) (S : List Int), vs = [.ref a, .ref b] ∧ H a = some (.lst [.int d, .int t, .int (L : Int), .int z]) ∧ H b = some (.lst (S.map V.int)) ∧ L ≤ 3 ∧ S.length ≤ 1000 ∧ 0 ≤ t ∧ t ≤ 200 ∧
  ∀ l H', Ext H H' → H' l = some (.lst ((stL d t z L S).map V.int)) → Q (.ref l) H'
theorem ok_lstops {f : Addr} {fd : FuncData} (F : Fun K "_law_stops" "_law_stops" s__law_stops f fd) (T : Txt K mg A) : FnOk P w K mg base CX0 1 f fd pm__law_stops (spLStops K) := by
  refine F.ok sc__law_stops (fun vs H Q E h => ?_) (fun cdv A' outer s H vs Q E hr h => ?_)
  · obtain ⟨_, _, _, _, _, _, _, rfl, _⟩ := h
    rfl
  · obtain ⟨a, b, d, t, L, z, S, rfl, ha, hb, hL, hS, t0, t2, q⟩ := h
    refine ⟨_, pss_cons (ps_asg (pv 0) (pg_unl rfl (pgs_cons (pg_name (i := 2) sc__law_stops.nd rfl (Or.inl rfl)) (pgs_cons (pg_name (i := 3) sc__law_stops.nd rfl (Or.inr rfl)) (pgs_cons (pg_name (i := 4) sc__law_stops.nd rfl (Or.inl rfl)) (pgs_cons (pg_name (i := 5) sc__law_stops.nd rfl (Or.inr rfl)) (pgs_nil)))))))
      (pss_one (ps_ret (pe_op op_cat (pe_op op_cat (pe_lst (pa_cons (pe_op op_mul (pe_un un_neg (pe_int)) (pv 2)) pa_nil)) (pe_callTy call_list_of (by rfl) T.n_list (by decide +kernel) (pa_cons (pv 1) pa_nil))) (pe_lc (own := [("_law_at", 6)]) (g := gName 6) (by rfl) sc__law_stops.nd (pi_range1 rfl T.n_range (pa_cons (pe_op op_add (pv 4) (pe_int)) pa_nil)) (blkOk_by (own := [("_law_at", 6)]) (N := nm__law_stops) (sc := defScope s__law_stops) (by decide +kernel)) (fun _ _ _ _ _ => pg_name (i := 6) sc__law_stops.nd rfl (Or.inl rfl)) (fun s1 H1 C1 cl fp => pts_nil) (fun s1 H1 C1 cl fp => pe_op op_add (pv 5) (pe_op op_mul (pv 6) (pv 3))))))), ?_⟩
    refine ⟨_, rfl, a, _, rfl, SqL.of ha, rfl, _, _, rfl, _, _, rfl, _, _, rfl, _, _, rfl, rfl, ?_⟩
    refine ⟨2, rfl, _, rfl, _, _, rfl, rfl, .inl ⟨by decide, by decide⟩, by show 1 ≤ sizeLine; decide, fun l1 h1 => ?_⟩
    have e1 := Ext.upd (o := .lst [V.int (-2 * d)]) h1
    have m1 : upd H l1 (.lst [V.int (-2 * d)]) l1 = some (.lst [V.int (-2 * d)]) := upd_same
    refine ⟨_, rfl, b, _, rfl, .inl (SqL.of (e1 _ _ hb)), fun l2 h2 => ?_⟩
    have e2 := Ext.upd (o := .lst (S.map V.int)) h2
    have m2 := upd_same (a := l2) (o := .lst (S.map V.int)) (H := upd H l1 (.lst [V.int (-2 * d)]))
    have m12 := e2 _ _ m1
    have e02 := e1.trans e2
    refine ⟨l1, l2, [V.int (-2 * d)], S.map V.int, rfl, rfl, m12, m2, ?_, fun l3 h3 => ?_⟩
    · rw [List.length_map]
      show 1 + _ ≤ _
      exact Nat.le_of_lt (small_sz (by omega))
    have e3 := Ext.upd (o := .lst ([V.int (-2 * d)] ++ S.map V.int)) h3
    have m3 := upd_same (a := l3) (o := .lst ([V.int (-2 * d)] ++ S.map V.int)) (H := upd (upd H l1 (.lst [V.int (-2 * d)])) l2 (.lst (S.map V.int)))
    have e03 := e02.trans e3
    clear e1 e2 e3 m1 m2 m12 e02
    generalize upd (upd (upd H l1 (.lst [V.int (-2 * d)])) l2 (.lst (S.map V.int))) l3 (.lst ([V.int (-2 * d)] ++ S.map V.int)) = H3 at e03 m3 ⊢
    refine ⟨_, rfl, _, _, rfl, rfl, _, rfl, by omega, by omega, lc_rgR (b := fun _ => true) (f := fun i => .int (z + (i : Int) * t)) (by show _ < 16777216; omega) (fun x => rfl) (fun i hi H' e' Q' q' => q' _ Ext.rfl') (fun i hi _ H' e' Q' q' => ?_) (fun D H1 hD e1 hl => ?_)⟩
    · refine ⟨_, rfl, _, rfl, _, rfl, _, _, rfl, rfl, .inr ⟨by omega, by omega⟩, _, _, rfl, rfl, ?_⟩
      rw [Int.zero_add]
      exact q' _ Ext.rfl'
    · rw [L2.filter_all] at hl
      refine ⟨l3, D, _, _, rfl, rfl, e1 _ _ m3, hl, ?_, fun l4 h4 => ?_⟩
      · rw [List.length_append, List.length_map, List.length_map, List.length_range]
        show 1 + S.length + ((L : Int) + 1).toNat ≤ _
        exact Nat.le_of_lt (small_sz (by omega))
      · refine q l4 _ ((e03.trans e1).trans (Ext.upd h4)) ?_
        rw [upd_same]
        congr 2
        rw [show ((L : Int) + 1).toNat = L + 1 by omega]
        simp [stL]
def spLGap (K : PySem.W.Frag) : Sp := fun vs H Q _ => ∃ (a b : Addr) (d t : Int) (L : Nat) (z : Int) (S : List Int), vs = [.ref a, .ref b] ∧ H a = some (.lst [.int d, .int t, .int (L : Int), .int z]) ∧ H b = some (.lst (S.map V.int)) ∧ L ≤ 3 ∧ S.length ≤ 1000 ∧ 0 ≤ t ∧ t ≤ 200 ∧ 0 ≤ d ∧ 0 ≤ z ∧ (∀ x ∈ S, 0 ≤ x) ∧
  ∀ H', Ext H H' → Q (.int (gapQ d t z S L)) H'
theorem ok_lgap {f : Addr} {fd : FuncData} (F : Fun K "_law_gap" "_law_gap" s__law_gap f fd) (T : Txt K mg A) (O__law_stops : Own P w K mg base CX0 "_law_stops" 1 pm__law_stops (spLStops K)) : FnOk P w K mg base CX0 2 f fd pm__law_gap (spLGap K) := by
  refine F.ok sc__law_gap (fun vs H Q E h => ?_) (fun cdv A' outer s H vs Q E hr h => ?_)
  · obtain ⟨_, _, _, _, _, _, _, rfl, _⟩ := h
    rfl
  · obtain ⟨a, b, d, t, L, z, S, rfl, ha, hb, hL, hS, t0, t2, d0, z0, hS0, q⟩ := h
    refine ⟨_, pss_cons (ps_par (i := 2) (j := 3) (by rfl) sc__law_gap.nd rfl rfl (by decide) rfl rfl (pa_cons (pe_own O__law_stops (hr.mono (by decide)) pass0 (pa_cons (pv 0) (pa_cons (pv 1) pa_nil))) (pa_cons (pe_op op_add (pe_ix ix_list (pv 0) (pe_int) (fun _ _ => rfl)) (pe_int)) pa_nil)) (by rfl))
      (pss_cons (ps_set (i := 4) sc__law_gap.nd rfl (Or.inl rfl) (pe_op op_sub (pe_ix ix_list (pv 2) (pv 3) (fun _ _ => rfl)) (pe_ix ix_list (pv 2) (pe_int) (fun _ _ => rfl))))
      (pss_cons (ps_for PassesOwn.never rfl (pi_range1 rfl T.n_range (pa_cons (pe_op op_add (pe_callB call_len_seq (by rfl) T.n_len (by decide +kernel) (pa_cons (pv 1) pa_nil)) (pe_int)) pa_nil)) (pg_name (i := 5) sc__law_gap.nd rfl (Or.inl rfl)) (pss_one (ps_set (i := 4) sc__law_gap.nd rfl (Or.inl rfl) (pe_callB (call_max2 rfl) (by rfl) T.n_max (by decide +kernel) (pa_cons (pe_callTy call_int1 (by rfl) T.n_int (by decide +kernel) (pa_cons (pv 4) pa_nil)) (pa_cons (pe_callTy call_int1 (by rfl) T.n_int (by decide +kernel) (pa_cons (pe_op op_sub (pe_ix ix_list (pv 2) (pe_op op_add (pv 5) (pv 3)) (fun _ _ => rfl)) (pe_ix ix_list (pv 2) (pv 5) (fun _ _ => rfl))) pa_nil)) pa_nil))))))
      (pss_one (ps_ret (pv 4))))), ?_⟩
    refine ⟨_, rfl, _, rfl, a, b, d, t, L, z, S, rfl, ha, hb, hL, hS, t0, t2, fun l H1 e1 hl => ?_⟩
    have ha1 := e1 _ _ ha
    have hb1 := e1 _ _ hb
    have hat : ∀ k : Nat, k < S.length + L + 2 → ((stL d t z L S).map V.int)[k]? = some (.int (st d t z S k)) := fun k hk => by
      rw [get_int (by rw [stL_len]; exact hk), stL_get hk]
    refine ⟨_, rfl, a, _, 2, .int (L : Int), rfl, rfl, SqL.of ha1, atI_nat (j := 2) rfl, _, _, rfl, rfl, _, _, rfl, ?_⟩
    refine ⟨_, rfl, _, rfl, l, _, ((L : Int) + 1), .int (st d t z S (L + 1)), rfl, rfl, SqL.of hl, ?_, _, rfl, l, _, 0, .int (st d t z S 0), rfl, rfl, SqL.of hl, ?_, _, _, rfl, rfl, ?_⟩
    · rw [show (L : Int) + 1 = ((L + 1 : Nat) : Int) by omega]
      exact atI_nat (hat _ (by omega))
    · exact atI_nat (j := 0) (hat 0 (by omega))
    have hlm : (S.map V.int).length = S.length := List.length_map _
    refine ⟨_, rfl, b, _, rfl, .inl (SqL.of hb1), _, _, rfl, rfl, _, rfl, by omega, by omega, ?_⟩
    rw [hlm, show ((S.length : Int) + 1).toNat = S.length + 1 by omega]
    refine for_range (n := S.length + 1) (fun i σ' H' => ∃ (m : Int) (o5 : Option V), σ' = [some (.ref a), some (.ref b), some (.ref l), some (.int ((L : Int) + 1)), some (.int m), o5] ∧ H1 = H' ∧ (∃ j, j ≤ S.length ∧ st d t z S (j + (L + 1)) - st d t z S j = m) ∧ ∀ j, j < i → st d t z S (j + (L + 1)) - st d t z S j ≤ m) ⟨_, _, rfl, rfl, ⟨0, Nat.zero_le _, by rw [Nat.zero_add]⟩, fun j hj => absurd hj (Nat.not_lt_zero _)⟩ (fun i σ' H' hi pv => ?_) (fun σ' H' pv => ?_)
    · obtain ⟨m, o5, rfl, rfl, hex, hall⟩ := pv
      rw [Int.zero_add]
      refine ⟨_, rfl, .inl ⟨_, rfl, _, rfl, _, rfl, _, rfl, _, _, rfl, rfl, l, _, ((i : Int) + ((L : Int) + 1)), .int (st d t z S (i + (L + 1))), rfl, rfl, SqL.of hl, ?_, _, rfl, _, rfl, l, _, (i : Int), .int (st d t z S i), rfl, rfl, SqL.of hl, atI_nat (hat i (by omega)), _, _, rfl, rfl, .inl ⟨_, rfl, _, _, rfl, ?_⟩⟩⟩
      · rw [show (i : Int) + ((L : Int) + 1) = ((i + (L + 1) : Nat) : Int) by omega]
        exact atI_nat (hat _ (by omega))
      refine ⟨_, _, rfl, rfl, ?_, fun j hj => ?_⟩
      · split
        · exact ⟨i, by omega, rfl⟩
        · exact hex
      · have hji : j < i ∨ j = i := by omega
        rcases hji with h | rfl
        · have := hall j h
          split <;> omega
        · split <;> omega
    · obtain ⟨m, o5, rfl, rfl, ⟨j, hj, hex⟩, hall⟩ := pv
      have hg : Gap d t L z S m := ⟨⟨j, hj, hex⟩, fun i hi => hall i (by omega)⟩
      rw [← gap_one hg (gap_is d0 t0 z0 hS0)] at q
      exact ⟨_, rfl, q _ e1⟩
end
end K29

set_option Elab.async false
set_option maxRecDepth 100000
set_option maxHeartbeats 4000000
namespace K29
open PySem PySem.Spec PyProof.Rows L2 K31
def onI (g : Int → Bool) : V → Bool | .int m => g m | _ => false
theorem onI_filter (g : Int → Bool) : ∀ ms : List Int, ((ms.map V.int).filter (onI g)).map (fun x => x) = (ms.filter g).map V.int
  | [] => rfl
  | m :: ms => by
    have ih := onI_filter g ms
    rw [List.map_cons, List.filter_cons, List.filter_cons]
    show List.map (fun x => x) (if g m = true then _ else _) = _
    split
    · rw [List.map_cons, ih, List.map_cons]
    · exact ih
theorem filter_empty (g : Int → Bool) (ms : List Int) : ((ms.filter g).map V.int).isEmpty = ms.all fun m => !g m := by
  rw [Bool.eq_iff_iff, List.isEmpty_iff, List.map_eq_nil_iff, List.filter_eq_nil_iff, List.all_eq_true]
  exact ⟨fun h m hm => by have := h m hm; rw [Bool.not_eq_true] at this; rw [this]; rfl, fun h m hm => by have := h m hm; rw [Bool.not_eq_true'] at this; rw [this]; decide⟩
theorem eqv_nilV (xs : List V) : PyData.eqvAll (xs.map pd) (([] : List V).map pd) = xs.isEmpty := by cases xs <;> rfl
theorem neNil {K : PySem.W.Frag} {H : Hp} {C l2 : Addr} {xs : List V} {Q : VK} (hC : H C = some (.lst xs)) (h2 : H l2 = some (.lst [])) (fx : ∀ v ∈ xs, Fl v) (q : Q (.bl (!xs.isEmpty)) H) : rNeD K (.ref C) (.ref l2) H Q :=
  neD_lst (SqL.of hC) (SqL.of h2) fx (fun v hv => by cases hv) (by rw [eqv_nilV]; exact q)
theorem eqNil {K : PySem.W.Frag} {H : Hp} {C l2 : Addr} {xs : List V} {Q : VK} (hC : H C = some (.lst xs)) (h2 : H l2 = some (.lst [])) (fx : ∀ v ∈ xs, Fl v) (q : Q (.bl xs.isEmpty) H) : rEqD K (.ref C) (.ref l2) H Q :=
  eqD_lst (SqL.of hC) (SqL.of h2) fx (fun v hv => by cases hv) (by rw [eqv_nilV]; exact q)
theorem md_fit {r : PlD} (h : MdOk r) : RdFit (rdOf r) r.o := by
  have k := h.ok
  exact ⟨rfl, by show 1 ≤ r.d; have := h.l1; have := h.ld; omega, h.d2, k.t1, k.t2, k.l1, k.l2, k.q1, k.q2, k.p1, k.p2, k.r1, k.r3, by show r.o ≤ r.la; have := k.a1; have := h.l1; omega, h.b3⟩
section
variable {P : Program} {w : World} {K : PySem.W.Frag} {mg : Str → Option Value} {base : Heap} {A : Ad}
def spLGaps (K : PySem.W.Frag) : Sp := fun vs H Q _ => ∃ (p bx ro : Addr) (xs : List V) (r : PlD), vs = [.ref p] ∧ Drawn H p bx ro xs r ∧ MdOk r ∧ ∀ l zs H', Ext H H' → H' l = some (.lst zs) → zs.length = (gapsV (rdOf r) r.o).length → TupsAt pairS (gapsV (rdOf r) r.o) zs H' → Q (.ref l) H'
theorem ok_lgaps {f : Addr} {fd : FuncData} (F : Fun K "_law_gaps" "_law_gaps" s__law_gaps f fd) (T : Txt K mg A) (O__law_gap : Own P w K mg base CX0 "_law_gap" 2 pm__law_gap (spLGap K)) : FnOk P w K mg base CX0 3 f fd pm__law_gaps (spLGaps K) := by
  refine F.ok sc__law_gaps (fun vs H Q E h => ?_) (fun cdv A' outer s H vs Q E hr h => ?_)
  · obtain ⟨_, _, _, _, _, rfl, _⟩ := h
    rfl
  · obtain ⟨p, bx, ro, xs, r, rfl, ⟨hp, hbx, hxs, hro⟩, hm, q⟩ := h
    refine ⟨_, pss_cons (ps_asg (pe_tup (pa_cons (pe_ix ix_list (pv 0) (pe_int) (fun _ _ => rfl)) (pa_cons (pe_ix ix_list (pv 0) (pe_int) (fun _ _ => rfl)) (pa_cons (pe_ix ix_list (pv 0) (pe_int) (fun _ _ => rfl)) (pa_cons (pe_ix ix_list (pv 0) (pe_int) (fun _ _ => rfl)) pa_nil))))) (pg_tup rfl (pgs_cons (pg_name (i := 1) sc__law_gaps.nd rfl (Or.inl rfl)) (pgs_cons (pg_name (i := 2) sc__law_gaps.nd rfl (Or.inl rfl)) (pgs_cons (pg_name (i := 3) sc__law_gaps.nd rfl (Or.inl rfl)) (pgs_cons (pg_name (i := 4) sc__law_gaps.nd rfl (Or.inl rfl)) (pgs_nil)))))))
      (pss_cons (ps_par (i := 5) (j := 6) (by rfl) sc__law_gaps.nd rfl rfl (by decide) rfl rfl (pa_cons (pe_ix ix_list (pv 0) (pe_int) (fun _ _ => rfl)) (pa_cons (pe_ix ix_list (pv 0) (pe_int) (fun _ _ => rfl)) pa_nil)) (by rfl))
      (pss_cons (ps_set (i := 7) sc__law_gaps.nd rfl (Or.inl rfl) (pe_lst (pa_cons (pe_tup (pa_cons (pe_str) (pa_cons (pe_op op_add (pe_op op_sub (pe_ix ix_list (pv 0) (pe_int) (fun _ _ => rfl)) (pe_ix ix_list (pv 0) (pe_int) (fun _ _ => rfl))) (pe_op op_mul (pv 3) (pv 2))) pa_nil))) pa_nil)))
      (Evl.pss_cut (ps_if (pt_cmpR (op_neD hr.units) (pe_lc (own := [("_law_count", 8)]) (g := gName 8) (by rfl) sc__law_gaps.nd (pi_sq (pv 4)) (blkOk_by (own := [("_law_count", 8)]) (N := nm__law_gaps) (sc := defScope s__law_gaps) (by decide +kernel)) (fun _ _ _ _ _ => pg_name (i := 8) sc__law_gaps.nd rfl (Or.inl rfl)) (fun s1 H1 C1 cl fp => pts_one (pt_cmpR op_gt (pv 8) (pe_int) (nomark _))) (fun s1 H1 C1 cl fp => pv 8)) (pe_lst (pa_nil)) (nomark _)) (pss_one (ps_expr (pe_bm PySem.F.plainAttrs_list PySem.F.slot_list_append PySem.F.type_list_append mt_append (pv 7) (pa_cons (pe_tup (pa_cons (pe_str) (pa_cons (pe_op op_add (pe_op op_mul (pe_int) (pv 1)) (pe_op op_mul (pv 3) (pv 2))) pa_nil))) pa_nil)))) (pss_nil))
      (Evl.pss_cut (ps_if (pt_cmpR op_gt (pe_callB call_len_seq (by rfl) T.n_len (by decide +kernel) (pa_cons (pv 4) pa_nil)) (pe_int) (nomark _)) (pss_one (ps_expr (pe_bm PySem.F.plainAttrs_list PySem.F.slot_list_append PySem.F.type_list_append mt_append (pv 7) (pa_cons (pe_tup (pa_cons (pe_str) (pa_cons (pe_own O__law_gap (hr.mono (by decide)) pass0 (pa_cons (pe_lst (pa_cons (pv 1) (pa_cons (pv 2) (pa_cons (pv 3) (pa_cons (pv 5) pa_nil))))) (pa_cons (pe_listRg3 rfl (by rfl) T.n_list (prg_3 (by rfl) T.n_range (pa_cons (pv 6) (pa_cons (pv 5) (pa_cons (pv 6) pa_nil))))) pa_nil))) pa_nil))) pa_nil)))) (pss_nil))
      (pss_one (ps_ret (pv 7))))))), ?_⟩
    have hf := md_fit hm
    have k := hm.ok
    have l1 := k.l1
    have l2 := k.l2
    have t2 := k.t2
    have t1 := k.t1
    have d1 : 1 ≤ r.d := hf.m1
    have hG := hf
    refine ⟨_, rfl, p, _, 2, .int r.d, rfl, rfl, SqL.of hp, atI_nat (j := 2) rfl, _, rfl, p, _, 5, .int r.tu, rfl, rfl, SqL.of hp, atI_nat (j := 5) rfl, _, rfl, p, _, 6, .int r.lo, rfl, rfl, SqL.of hp, atI_nat (j := 6) rfl, _, rfl, p, _, 7, .ref ro, rfl, rfl, SqL.of hp, atI_nat (j := 7) rfl, by show 4 ≤ sizeLine; decide, fun t0 h0 => ⟨t0, _, rfl, SqT.of upd_same, rfl, _, _, rfl, _, _, rfl, _, _, rfl, _, _, rfl, rfl, ?_⟩⟩
    have e0 := Ext.upd (o := .tup [V.int r.d, .int r.tu, .int r.lo, .ref ro]) h0
    generalize upd H t0 (.tup [V.int r.d, .int r.tu, .int r.lo, .ref ro]) = H0 at e0 ⊢
    have hp0 := e0 _ _ hp
    have hro0 := e0 _ _ hro
    refine ⟨_, rfl, p, _, 8, .int r.qu, rfl, rfl, SqL.of hp0, atI_nat (j := 8) rfl, _, rfl, p, _, 9, .int r.pe, rfl, rfl, SqL.of hp0, atI_nat (j := 9) rfl, _, _, rfl, ?_⟩
    refine ⟨_, rfl, p, _, 4, .int r.la, rfl, rfl, SqL.of hp0, atI_nat (j := 4) rfl, _, rfl, p, _, 0, .int r.o, rfl, rfl, SqL.of hp0, atI_nat (j := 0) rfl, _, _, rfl, rfl, _, rfl, _, rfl, _, _, rfl, rfl, .inr ⟨by omega, by omega⟩, _, _, rfl, rfl, by show 2 ≤ sizeLine; decide, fun t1' h1 => ⟨by show 1 ≤ sizeLine; decide, fun l hl => ?_⟩⟩
    have e1 := Ext.upd (o := .tup [V.str "race", .int (r.la - r.o + r.lo * r.tu)]) h1
    have m1 : upd H0 t1' (.tup [V.str "race", .int (r.la - r.o + r.lo * r.tu)]) t1' = some (.tup (pairS ("race", raceV (rdOf r) r.o))) := upd_same
    have e2 := Ext.upd (o := .lst [V.ref t1']) hl
    have m2 : upd (upd H0 t1' (.tup [V.str "race", .int (r.la - r.o + r.lo * r.tu)])) l (.lst [V.ref t1']) l = some (.lst [V.ref t1']) := upd_same
    have m1' := e2 _ _ m1
    have e02 := (e0.trans e1).trans e2
    have hlH : H l = none := ext_none (e0.trans e1) hl
    clear e1 e2 m1
    generalize upd (upd H0 t1' (.tup [V.str "race", .int (r.la - r.o + r.lo * r.tu)])) l (.lst [V.ref t1']) = H2 at e02 m1' m2 ⊢
    have hz0 : TupsAt pairS (gapsV (rdOf r) r.o) [V.ref t1'] H2 := fun i v hv => by
      cases i with
      | zero => cases hv; exact ⟨t1', ("race", raceV (rdOf r) r.o), rfl, rfl, m1'⟩
      | succ i => cases hv
    have hgl := gaps_len (rdOf r) r.o
    have hll : ∀ {zs : List V} {H' : Hp} {o : HO}, Ext H H' → H' l = some (.lst zs) → Ext H (upd H' l o) := fun e _ => ext_mut e hlH
    have hrs3 := k.r3
    refine ⟨fun σ H' => ∃ zs, σ = [some (.ref p), some (.int r.d), some (.int r.tu), some (.int r.lo), some (.ref ro), some (.int r.qu), some (.int r.pe), some (.ref l), none] ∧ Ext H H' ∧ H' l = some (.lst zs) ∧ zs.length = 1 + (optP "row" (rowV (rdOf r))).length ∧ TupsAt pairS (gapsV (rdOf r) r.o) zs H', ?_, ?_⟩
    · refine ⟨_, rfl, ro, rfl, lc_sqG (f := fun x => x) (b := onI fun m => decide (m > 1)) (.inl (SqL.of (e02 _ _ hro))) (small_sz (by rw [List.length_map]; omega)) (fun x => rfl) (fun x hm H' e' Q' q' => ?_) (fun x hm _ H' e' Q' q' => ⟨x, rfl, q' _ Ext.rfl'⟩) (fun D H3 hD e3 hl3 => ?_)⟩
      · obtain ⟨m, _, rfl⟩ := List.mem_map.mp hm
        exact ⟨_, rfl, _, _, rfl, rfl, _, rfl, q' H' Ext.rfl'⟩
      rw [onI_filter] at hl3
      refine ⟨by show 0 ≤ sizeLine; decide, fun l4 h4 => ?_⟩
      have e4 := Ext.upd (o := .lst []) h4
      refine neNil (e4 _ _ hl3) upd_same fl_ints ⟨_, rfl, ?_⟩
      have e24 := e3.trans e4
      generalize upd H3 l4 (.lst []) = H4 at e24 ⊢
      have e04 := e02.trans e24
      have ml4 := e24 _ _ m2
      have hz4 := hz0.keep (ExtP.of (H := H2) e24)
      have hem : ((r.rs.filter fun m => decide (m > 1)).map V.int).isEmpty = !(rdOf r).rs.any (fun x => decide (x > 1)) := by
        rw [filter_empty, List.not_any_eq_all_not]; rfl
      rw [hem, Bool.not_not]
      cases ha : (rdOf r).rs.any (fun x => decide (x > 1)) with
      | false =>
        have hr : rowV (rdOf r) = none := by unfold rowV; rw [ha]; rfl
        exact iteF ⟨[.ref t1'], rfl, e04, ml4, by rw [hr]; rfl, hz4⟩
      | true =>
        have hr : rowV (rdOf r) = some (2 * r.d + r.lo * r.tu) := by unfold rowV; rw [ha]; rfl
        refine iteT ⟨_, rfl, .inl ⟨rfl, _, SqL.of ml4⟩, _, rfl, _, _, rfl, rfl, .inl ⟨by decide, by decide⟩, _, rfl, _, rfl, _, _, rfl, rfl, .inr ⟨by omega, by omega⟩, _, _, rfl, rfl, by show 2 ≤ sizeLine; decide, fun t5 h5 => ?_⟩
        have e5 := Ext.upd (o := .tup [V.str "row", .int (2 * r.d + r.lo * r.tu)]) h5
        have m5 : upd H4 t5 (.tup [V.str "row", .int (2 * r.d + r.lo * r.tu)]) t5 = some (.tup (pairS ("row", 2 * r.d + r.lo * r.tu))) := upd_same
        have ml5 := e5 _ _ ml4
        refine ⟨l, _, _, rfl, rfl, ml5, small_sz (by show 1 ≤ _; omega), [.ref t1', .ref t5], rfl, hll (e04.trans e5) ml5, upd_same, by rw [hr]; rfl, ?_⟩
        have := TupsAt.snoc (hz4.keep (ExtP.of (H := H4) e5)) (by unfold gapsV; rw [hr]; rfl) m5
        exact this.keep (ExtP.lst (H := fun _ => none) rfl ml5)
    rintro σ H5 ⟨zs, rfl, e5, ml, hzl, hzt⟩
    refine ⟨fun σ H' => ∃ zs, σ = [some (.ref p), some (.int r.d), some (.int r.tu), some (.int r.lo), some (.ref ro), some (.int r.qu), some (.int r.pe), some (.ref l), none] ∧ Ext H H' ∧ H' l = some (.lst zs) ∧ zs.length = (gapsV (rdOf r) r.o).length ∧ TupsAt pairS (gapsV (rdOf r) r.o) zs H', ?_, ?_⟩
    · refine ⟨_, rfl, ro, _, rfl, .inl (SqL.of (e5 _ _ hro)), _, _, rfl, rfl, _, rfl, ?_⟩
      rw [List.length_map]
      have hgg : (gapsV (rdOf r) r.o).length = 1 + (optP "row" (rowV (rdOf r))).length + (optP "quiet" (restV (rdOf r))).length := by
        unfold gapsV
        rw [List.length_cons, List.length_append]
        omega
      by_cases h1 : (r.rs.length : Int) > 1
      · rw [decide_eq_true h1]
        have hr : restV (rdOf r) = some (gapQ r.d r.tu r.qu (sgn r.qu r.pe) r.lo.toNat) := if_neg (show ¬ r.rs.length = 1 by omega)
        obtain ⟨L, hL⟩ : ∃ L : Nat, r.lo = (L : Int) := ⟨r.lo.toNat, by omega⟩
        have hss : (sgn r.qu r.pe).length ≤ 500 := sgn_short (p := r.pe) hf.p1 hf.q1 hf.q2
        have qq1 := k.q1
        have qq2 := k.q2
        have pp1 := k.p1
        have pp2 := k.p2
        refine iteT ⟨_, rfl, .inl ⟨rfl, _, SqL.of ml⟩, _, rfl, _, rfl, _, rfl, _, rfl, by show 4 ≤ sizeLine; decide, fun a ha => ?_⟩
        have ea := Ext.upd (o := .lst [V.int r.d, .int r.tu, .int r.lo, .int r.qu]) ha
        have ma := upd_same (a := a) (o := .lst [V.int r.d, .int r.tu, .int r.lo, .int r.qu]) (H := H5)
        generalize upd H5 a (.lst [V.int r.d, .int r.tu, .int r.lo, .int r.qu]) = J1 at ea ma ⊢
        refine ⟨_, rfl, _, rfl, _, rfl, r.pe, r.qu, r.pe, rfl, by omega, ⟨by omega, by omega, by omega, by omega⟩, _, rg_sgn pp1 pp2 qq1 qq2, ?_, fun b hb => ?_⟩
        · rw [← sgn_len]
          exact Nat.le_trans hss (by decide)
        have eb := Ext.upd (o := .lst (rgC r.pe r.pe ((r.qu - 1) / r.pe).toNat)) hb
        have mb := upd_same (a := b) (o := .lst (rgC r.pe r.pe ((r.qu - 1) / r.pe).toNat)) (H := J1)
        generalize upd J1 b (.lst (rgC r.pe r.pe ((r.qu - 1) / r.pe).toNat)) = J2 at eb mb ⊢
        rw [rgC_sgn] at mb
        have ma2 := eb _ _ ma
        rw [hL] at ma2
        refine ⟨a, b, r.d, r.tu, L, r.qu, sgn r.qu r.pe, rfl, ma2, mb, by omega, by omega, by omega, t2, by omega, by omega, fun x hx => by have := sgn_in pp1 x hx; omega, fun J3 e3 => ⟨by show 2 ≤ sizeLine; decide, fun t9 h9 => ?_⟩⟩
        have e9 := Ext.upd (o := .tup [V.str "quiet", .int (gapQ r.d r.tu r.qu (sgn r.qu r.pe) L)]) h9
        have m9 : upd J3 t9 (.tup [V.str "quiet", .int (gapQ r.d r.tu r.qu (sgn r.qu r.pe) L)]) t9 = some (.tup (pairS ("quiet", gapQ r.d r.tu r.qu (sgn r.qu r.pe) L))) := upd_same
        have e59 := ((ea.trans eb).trans e3).trans e9
        have ml9 := e59 _ _ ml
        have hzs : zs.length ≤ 3 := by rw [hzl]; cases rowV (rdOf r) <;> simp [optP]
        refine ⟨l, _, _, rfl, rfl, ml9, small_sz (by omega), zs ++ [.ref t9], rfl, hll (e5.trans e59) ml9, upd_same, by rw [hgg, hr, List.length_append, hzl]; rfl, ?_⟩
        refine (TupsAt.snoc (hzt.keep (ExtP.of (H := H5) e59)) ?_ m9).keep (ExtP.lst (H := fun _ => none) rfl ml9)
        rw [hzl]
        unfold gapsV
        rw [hr, hL, Int.toNat_natCast, Nat.add_comm, List.getElem?_cons_succ, List.getElem?_append_right (Nat.le_refl _), Nat.sub_self]; rfl
      · rw [decide_eq_false h1]
        have hr : restV (rdOf r) = none := if_pos (show r.rs.length = 1 by have := k.r1; omega)
        exact iteF ⟨zs, rfl, e5, ml, by rw [hgg, hr, hzl]; rfl, hzt⟩
    rintro σ H6 ⟨zs, rfl, e6, ml6, hzl6, hzt6⟩
    exact ⟨_, rfl, q l zs H6 e6 ml6 hzl6 hzt6⟩
end
end K29

set_option Elab.async false
set_option maxRecDepth 100000
set_option maxHeartbeats 4000000
namespace K29
open PySem PySem.Spec PyProof.Rows L2 K31
/-- what is sent behind an answer: signs at ts, the next parcel at z, its row, the parcels left -/
def NextIs (r : PlD) (row : Nat) (left m : Int) (ts : List Int) (z : Int) (row' : Nat) (left' : Int) : Prop :=
  (left > 1 ∧ ts = [] ∧ z = m ∧ row' = row ∧ left' = left - 1) ∨ (¬ left > 1 ∧ r.rs[row + 1]? = some left' ∧ ts = (sgn r.qu r.pe).map (· + m) ∧ z = r.qu + m ∧ row' = row + 1)
section
variable {P : Program} {w : World} {K : PySem.W.Frag} {mg : Str → Option Value} {base : Heap} {A : Ad}
def spNext (K : PySem.W.Frag) : Sp := fun vs H Q _ => ∃ (p bx ro : Addr) (xs : List V) (r : PlD) (row : Nat) (left m : Int), vs = [.ref p, .int (row : Int), .int left, .int m] ∧ Drawn H p bx ro xs r ∧ MdOk r ∧ row < r.rs.length ∧
  (¬ left > 1 → row + 1 = r.rs.length → ∀ H', Ext H H' → Q .non H') ∧
  ∀ l s ts z row' left' H', Ext H H' → H' l = some (.lst [.ref s, .int z, .int ((row' : Nat) : Int), .int left']) → H' s = some (.lst (ts.map V.int)) → NextIs r row left m ts z row' left' → Q (.ref l) H'
theorem ok_next {f : Addr} {fd : FuncData} (F : Fun K "_law_next" "_law_next" s__law_next f fd) (T : Txt K mg A) : FnOk P w K mg base CX0 1 f fd pm__law_next (spNext K) := by
  refine F.ok sc__law_next (fun vs H Q E h => ?_) (fun cdv A' outer s H vs Q E hr h => ?_)
  · obtain ⟨_, _, _, _, _, _, _, _, rfl, _⟩ := h
    rfl
  · obtain ⟨p, bx, ro, xs, r, row, left, m, rfl, ⟨hp, hbx, hxs, hro⟩, hm, hrow, q1, q2⟩ := h
    refine ⟨_, pss_cons (ps_par3 (i := 4) (j := 5) (l := 6) (by rfl) sc__law_next.nd rfl rfl rfl (by decide) (by decide) (by decide) rfl rfl rfl (pa_cons (pe_ix ix_list (pv 0) (pe_int) (fun _ _ => rfl)) (pa_cons (pe_ix ix_list (pv 0) (pe_int) (fun _ _ => rfl)) (pa_cons (pe_ix ix_list (pv 0) (pe_int) (fun _ _ => rfl)) pa_nil))) (by rfl))
      (pss_cons (ps_if (pt_cmpR op_gt (pv 2) (pe_int) (nomark _)) (pss_one (ps_ret (pe_lst (pa_cons (pe_lst (pa_nil)) (pa_cons (pv 3) (pa_cons (pv 1) (pa_cons (pe_op op_sub (pv 2) (pe_int)) pa_nil))))))) (pss_nil))
      (pss_cons (ps_if (pt_cmpR op_eq (pe_op op_add (pv 1) (pe_int)) (pe_callB call_len_seq (by rfl) T.n_len (by decide +kernel) (pa_cons (pv 4) pa_nil)) (nomark _)) (pss_one (ps_ret (pe_non))) (pss_nil))
      (pss_one (ps_ret (pe_lst (pa_cons (pe_lc (own := [("_law_at", 7)]) (g := gName 7) (by rfl) sc__law_next.nd (pi_range3 rfl T.n_range (pa_cons (pv 6) (pa_cons (pv 5) (pa_cons (pv 6) pa_nil)))) (blkOk_by (own := [("_law_at", 7)]) (N := nm__law_next) (sc := defScope s__law_next) (by decide +kernel)) (fun _ _ _ _ _ => pg_name (i := 7) sc__law_next.nd rfl (Or.inl rfl)) (fun s1 H1 C1 cl fp => pts_nil) (fun s1 H1 C1 cl fp => pe_op op_add (pv 3) (pv 7))) (pa_cons (pe_op op_add (pv 3) (pv 5)) (pa_cons (pe_op op_add (pv 1) (pe_int)) (pa_cons (pe_ix ix_list (pv 4) (pe_op op_add (pv 1) (pe_int)) (fun _ _ => rfl)) pa_nil))))))))), ?_⟩
    have k := hm.ok
    have qq1 := k.q1
    have qq2 := k.q2
    have pp1 := k.p1
    have pp2 := k.p2
    have r3 := k.r3
    refine ⟨_, rfl, p, _, 7, .ref ro, rfl, rfl, SqL.of hp, atI_nat (j := 7) rfl, _, rfl, p, _, 8, .int r.qu, rfl, rfl, SqL.of hp, atI_nat (j := 8) rfl, _, rfl, p, _, 9, .int r.pe, rfl, rfl, SqL.of hp, atI_nat (j := 9) rfl, _, _, _, rfl, ?_⟩
    refine ⟨_, rfl, _, _, rfl, rfl, _, rfl, ?_⟩
    by_cases h1 : left > 1
    · rw [decide_eq_true h1]
      refine iteT ⟨by show 0 ≤ sizeLine; decide, fun s0 hs => ⟨_, rfl, _, rfl, _, rfl, _, _, rfl, rfl, by show 4 ≤ sizeLine; decide, fun l hl => ?_⟩⟩
      have es := Ext.upd (o := .lst []) hs
      have el := Ext.upd (o := .lst [V.ref s0, .int m, .int (row : Int), .int (left - 1)]) hl
      exact q2 l s0 [] m row (left - 1) _ (es.trans el) upd_same (el _ _ upd_same) (.inl ⟨h1, rfl, rfl, rfl, rfl⟩)
    · rw [decide_eq_false h1]
      refine iteF ⟨_, rfl, _, _, rfl, rfl, _, rfl, ro, _, rfl, .inl (SqL.of hro), rfl, _, rfl, ?_⟩
      rw [dvi, List.length_map]
      by_cases h2 : row + 1 = r.rs.length
      · rw [decide_eq_true (show (row : Int) + 1 = (r.rs.length : Int) by omega)]
        exact iteT (q1 h1 h2 _ Ext.rfl')
      · rw [decide_eq_false (show ¬ (row : Int) + 1 = (r.rs.length : Int) by omega)]
        obtain ⟨x, hx⟩ : ∃ x, r.rs[row + 1]? = some x := ⟨_, List.getElem?_eq_getElem (by omega)⟩
        have hxv : (r.rs.map V.int)[row + 1]? = some (.int x) := by rw [List.getElem?_map, hx]; rfl
        have hss : (sgn r.qu r.pe).length ≤ 500 := sgn_short (p := r.pe) pp1 qq1 qq2
        refine iteF ⟨_, rfl, _, rfl, _, rfl, r.pe, r.qu, r.pe, _, rfl, rg_sgn pp1 pp2 qq1 qq2, fun C hC => ?_⟩
        rw [← sgn_len]
        refine lc_it walk_rangeC (fun i H' => Ext H H' ∧ H' C = some (.lst ((((sgn r.qu r.pe).map (· + m)).take i).map V.int))) ⟨Ext.upd hC, upd_same⟩ (fun _ _ _ _ => True.intro) (fun i x' H1 H2 hi pv hy => ?_) (fun H' pv => ?_)
        · obtain ⟨e1, hC1⟩ := pv
          obtain ⟨rfl, rfl⟩ := hy
          have hgi : ((sgn r.qu r.pe).map (· + m))[i]? = some (r.pe + (i : Int) * r.pe + m) := by
            rw [List.getElem?_map]
            unfold sgn at hi ⊢
            rw [List.length_map, List.length_range] at hi
            rw [List.getElem?_map, List.getElem?_range hi]; rfl
          refine ⟨rfl, _, rfl, _, rfl, _, _, rfl, rfl, _, hC1, small_sz (by rw [List.length_map, List.length_take, List.length_map]; omega), ext_mut e1 hC, ?_⟩
          rw [upd_same, L2.take_snoc hgi, List.map_append, Int.add_comm (r.pe + (i : Int) * r.pe) m]; rfl
        · obtain ⟨e1, hC1⟩ := pv
          rw [List.take_of_length_le (by rw [List.length_map]; exact Nat.le_refl _)] at hC1
          have hro1 := e1 _ _ hro
          refine ⟨_, rfl, _, rfl, _, _, rfl, rfl, _, rfl, _, _, rfl, rfl, _, rfl, _, rfl, _, _, rfl, rfl, ro, _, ((row : Int) + 1), .int x, rfl, rfl, SqL.of hro1, ?_, by show 4 ≤ sizeLine; decide, fun l hl => ?_⟩
          · rw [show (row : Int) + 1 = ((row + 1 : Nat) : Int) by omega]
            exact atI_nat hxv
          have el := Ext.upd (o := .lst [V.ref C, .int (m + r.qu), .int ((row : Int) + 1), .int x]) hl
          refine q2 l C _ (r.qu + m) (row + 1) x _ (e1.trans el) ?_ (el _ _ hC1) (.inr ⟨h1, hx, rfl, rfl, rfl⟩)
          rw [upd_same, show r.qu + m = m + r.qu from Int.add_comm _ _]; rfl
end
end K29

set_option Elab.async false
set_option maxRecDepth 100000
set_option maxHeartbeats 4000000
namespace K29
open PySem PySem.Spec PyProof.Rows L2 K31
theorem Drawn.ext {H H' : Hp} {p bx ro : Addr} {xs : List V} {r : PlD} (h : Drawn H p bx ro xs r) (e : Ext H H') : Drawn H' p bx ro xs r := ⟨e _ _ h.p, e _ _ h.bx, h.xs.to fun t ys ht => e _ _ ht, e _ _ h.ro⟩
def mxl (fs : List Int) : Int := fs.foldr max 0
theorem mxl_nn : ∀ fs : List Int, 0 ≤ mxl fs
  | [] => Int.le_refl _
  | x :: fs => by
    have := mxl_nn fs
    show 0 ≤ max x (mxl fs)
    omega
theorem mxl_app : ∀ a b : List Int, mxl (a ++ b) = max (mxl a) (mxl b)
  | [], b => by
    have := mxl_nn b
    show mxl b = max 0 (mxl b)
    omega
  | x :: a, b => by
    show max x (mxl (a ++ b)) = max (max x (mxl a)) (mxl b)
    rw [mxl_app a b]
    omega
theorem mxl_le {m : Int} (m0 : 0 ≤ m) : ∀ {fs : List Int}, (∀ y ∈ fs, y ≤ m) → mxl fs ≤ m
  | [], _ => m0
  | x :: fs, h => by
    have h1 := h x List.mem_cons_self
    have h2 := mxl_le m0 (fs := fs) fun y hy => h y (List.mem_cons_of_mem _ hy)
    show max x (mxl fs) ≤ m
    omega
theorem le_mxl {y : Int} : ∀ {fs : List Int}, y ∈ fs → y ≤ mxl fs
  | x :: fs, h => by
    show y ≤ max x (mxl fs)
    rcases List.mem_cons.mp h with rfl | h
    · omega
    · have := le_mxl h
      omega
theorem mxl_is {m : Int} {fs : List Int} (h1 : m ∈ fs) (h2 : ∀ y ∈ fs, y ≤ m) (h3 : ∃ y ∈ fs, 0 ≤ y) : m = mxl fs := by
  obtain ⟨y, hy, y0⟩ := h3
  have := h2 y hy
  have a := mxl_le (show 0 ≤ m by omega) h2
  have b := le_mxl h1
  omega
/-- all parcels from here on -/
def pcs (left : Int) (rest : List Int) : Nat := left.toNat + (rest.map Int.toNat).sum
section
variable {P : Program} {w : World} {K : PySem.W.Frag} {mg : Str → Option Value} {base : Heap} {A : Ad}
structure Few (r : PlD) : Prop where
  md : MdOk r
  few : (sgn r.qu r.pe).length ≤ 8
def spPl (K : PySem.W.Frag) (N : Nat) : Sp := fun vs H Q _ => ∃ (p bx ro : Addr) (xs : List V) (r : PlD) (row L : Nat) (left m s : Int), vs = [.ref p, .int m, .int (row : Int), .int left, .int (L : Int), .int s] ∧ Drawn H p bx ro xs r ∧ Few r ∧ row < r.rs.length ∧ 1 ≤ left ∧ s ≤ m ∧ 10 * pcs left (r.rs.drop (row + 1)) + L ≤ N ∧
  ∀ H', Ext H H' → Q (.int (plV r.d r.tu r.qu (sgn r.qu r.pe) L left (r.rs.drop (row + 1)) m s)) H'
def spSg (K : PySem.W.Frag) (N : Nat) : Sp := fun vs H Q _ => ∃ (p bx ro : Addr) (xs : List V) (r : PlD) (row L : Nat) (left s z : Int) (l a : Addr) (ts : List Int), vs = [.ref p, .ref l, .int (L : Int), .int s] ∧ Drawn H p bx ro xs r ∧ Few r ∧ row < r.rs.length ∧ 1 ≤ left ∧ s ≤ z ∧ Up z ts ∧ ts.length ≤ 8 ∧ H l = some (.lst [.ref a, .int z, .int (row : Int), .int left]) ∧ H a = some (.lst (ts.map V.int)) ∧ 10 * pcs left (r.rs.drop (row + 1)) + L + ts.length + 1 ≤ N ∧
  ∀ H', Ext H H' → Q (.int (sgV r.d r.tu r.qu (sgn r.qu r.pe) L left (r.rs.drop (row + 1)) ts z s)) H'
theorem sg_ok {N : Nat} {f : Addr} {fd : FuncData} (F : Fun K "_law_signs" "_law_signs" s__law_signs f fd) (T : Txt K mg A) (O__law_played : Own P w K mg base CX0 "_law_played" (N + 2) pm__law_played (spPl K N)) (O__law_signs : Own P w K mg base CX0 "_law_signs" (N + 2) pm__law_signs (spSg K N)) : FnOk P w K mg base CX0 (N + 3) f fd pm__law_signs (spSg K (N + 1)) := by
  refine F.ok sc__law_signs (fun vs H Q E h => ?_) (fun cdv A' outer sh H vs Q E hr h => ?_)
  · obtain ⟨_, _, _, _, _, _, _, _, _, _, _, _, _, rfl, _⟩ := h
    rfl
  · obtain ⟨p, bx, ro, xs, r, row, L, left, s, z, l, a, ts, rfl, hD, hF, hrow, left1, hsz, hup, ht8, hl, ha, hN, q⟩ := h
    refine ⟨_, pss_cons (ps_asg (pv 1) (pg_unl rfl (pgs_cons (pg_name (i := 4) sc__law_signs.nd rfl (Or.inl rfl)) (pgs_cons (pg_name (i := 5) sc__law_signs.nd rfl (Or.inl rfl)) (pgs_cons (pg_name (i := 6) sc__law_signs.nd rfl (Or.inl rfl)) (pgs_cons (pg_name (i := 7) sc__law_signs.nd rfl (Or.inl rfl)) (pgs_nil)))))))
      (pss_cons (ps_if (pt_cmpR (op_eqD hr.units) (pv 4) (pe_lst (pa_nil)) (nomark _)) (pss_one (ps_ret (pe_own O__law_played (hr.mono (by omega)) pass0 (pa_cons (pv 0) (pa_cons (pv 5) (pa_cons (pv 6) (pa_cons (pv 7) (pa_cons (pv 2) (pa_cons (pv 3) pa_nil))))))))) (pss_nil))
      (pss_cons (ps_set (i := 8) sc__law_signs.nd rfl (Or.inl rfl) (pe_lst (pa_cons (pe_slice sl_list (pv 4) (po_some (pe_int)) po_none) (pa_cons (pv 5) (pa_cons (pv 6) (pa_cons (pv 7) pa_nil))))))
      (pss_cons (ps_set (i := 9) sc__law_signs.nd rfl (Or.inl rfl) (pe_lst (pa_cons (pe_op op_sub (pe_ix ix_list (pv 4) (pe_int) (fun _ _ => rfl)) (pv 3)) (pa_cons (pe_own O__law_signs (hr.mono (by omega)) pass0 (pa_cons (pv 0) (pa_cons (pv 8) (pa_cons (pv 2) (pa_cons (pe_ix ix_list (pv 4) (pe_int) (fun _ _ => rfl)) pa_nil))))) pa_nil))))
      (Evl.pss_cut (ps_if (pt_cmpR op_gt (pv 2) (pe_int) (nomark _)) (pss_one (ps_expr (pe_bm PySem.F.plainAttrs_list PySem.F.slot_list_append PySem.F.type_list_append mt_append (pv 9) (pa_cons (pe_own O__law_signs (hr.mono (by omega)) pass0 (pa_cons (pv 0) (pa_cons (pv 8) (pa_cons (pe_op op_sub (pv 2) (pe_int)) (pa_cons (pv 3) pa_nil))))) pa_nil)))) (pss_nil))
      (pss_one (ps_ret (pe_callB (cr_max rfl) (by rfl) T.n_max (by decide +kernel) (pa_cons (pe_lc (own := [("_law_number", 10)]) (g := gName 10) (by rfl) sc__law_signs.nd (pi_list (pv 9)) (blkOk_by (own := [("_law_number", 10)]) (N := nm__law_signs) (sc := defScope s__law_signs) (by decide +kernel)) (fun _ _ _ _ _ => pg_name (i := 10) sc__law_signs.nd rfl (Or.inl rfl)) (fun s1 H1 C1 cl fp => pts_nil) (fun s1 H1 C1 cl fp => pe_callTy call_int1 (by rfl) T.n_int (by decide +kernel) (pa_cons (pv 10) pa_nil))) pa_nil)))))))), ?_⟩
    have k := hF.md.ok
    have d1 : 1 ≤ r.d := (md_fit hF.md).m1
    have t1 := k.t1
    have tu0 : 0 ≤ r.tu := by omega
    have h0 : ∀ L : Nat, 0 ≤ 2 * r.d + (L : Int) * r.tu := fun L => by
      have := Int.mul_nonneg (show 0 ≤ (L : Int) by omega) tu0
      omega
    refine ⟨_, rfl, l, _, rfl, SqL.of hl, rfl, _, _, rfl, _, _, rfl, _, _, rfl, _, _, rfl, rfl, ?_⟩
    refine ⟨_, rfl, by show 0 ≤ sizeLine; decide, fun l0 h0' => ?_⟩
    have e0 := Ext.upd (o := .lst []) h0'
    refine eqNil (e0 _ _ ha) upd_same fl_ints ⟨_, rfl, ?_⟩
    generalize upd H l0 (.lst []) = H0 at e0 ⊢
    replace hD := hD.ext e0
    have ha0 := e0 _ _ ha
    cases ts with
    | nil =>
      rw [sgV_nil hsz tu0] at q
      exact iteT ⟨_, rfl, _, rfl, _, rfl, _, rfl, _, rfl, _, rfl, p, bx, ro, xs, r, row, L, left, z, s, rfl, hD, hF, hrow, left1, hsz, by simp at hN; omega, fun H' e' => q H' (e0.trans e')⟩
    | cons x ts =>
      have hxz := hup.1
      have m01 : 10 * pcs left (r.rs.drop (row + 1)) + L + ts.length + 1 ≤ N := by
        rw [List.length_cons] at hN
        omega
      have ht8' : ts.length ≤ 8 := by rw [List.length_cons] at ht8; omega
      refine iteF ⟨_, rfl, 1, rfl, a, _, rfl, SqL.of ha0, fun l2 h2 => ?_⟩
      rw [show cutV ((x :: ts).map V.int) (some 1) none = ts.map V.int from cut_from (S := x :: ts) (k := 1) (Nat.succ_le_succ (Nat.zero_le _))]
      refine ⟨_, rfl, _, rfl, _, rfl, by show 4 ≤ sizeLine; decide, fun l3 h3 => ?_⟩
      have e2 := Ext.upd (o := .lst (ts.map V.int)) h2
      have m2 := upd_same (a := l2) (o := .lst (ts.map V.int)) (H := H0)
      generalize upd H0 l2 (.lst (ts.map V.int)) = H2 at e2 m2 h3 ⊢
      have e3 := Ext.upd (o := .lst [V.ref l2, .int z, .int (row : Int), .int left]) h3
      have m3 := upd_same (a := l3) (o := .lst [V.ref l2, .int z, .int (row : Int), .int left]) (H := H2)
      generalize upd H2 l3 (.lst [V.ref l2, .int z, .int (row : Int), .int left]) = H3 at e3 m3 ⊢
      have e23 := e2.trans e3
      have ha3 := e23 _ _ ha0
      refine ⟨_, rfl, a, _, 0, .int x, rfl, rfl, SqL.of ha3, atI_nat (j := 0) rfl, _, rfl, _, _, rfl, rfl, _, rfl, _, rfl, _, rfl, _, rfl, a, _, 0, .int x, rfl, rfl, SqL.of ha3, atI_nat (j := 0) rfl, p, bx, ro, xs, r, row, L, left, x, z, l3, l2, ts, rfl, hD.ext e23, hF, hrow, left1, hxz, hup.2.2, ht8', m3, e3 _ _ m2, m01, fun H5 e5 => ⟨by show 2 ≤ sizeLine; decide, fun l6 h6 => ?_⟩⟩
      have e6 := Ext.upd (o := .lst [V.int (x - s), .int (sgV r.d r.tu r.qu (sgn r.qu r.pe) L left (r.rs.drop (row + 1)) ts z x)]) h6
      have m6 : upd H5 l6 (.lst [V.int (x - s), .int (sgV r.d r.tu r.qu (sgn r.qu r.pe) L left (r.rs.drop (row + 1)) ts z x)]) l6 = some (.lst ([x - s, sgV r.d r.tu r.qu (sgn r.qu r.pe) L left (r.rs.drop (row + 1)) ts z x].map V.int)) := upd_same
      have e06 := (e23.trans e5).trans e6
      have hl6 : H0 l6 = none := ext_none (e23.trans e5) h6
      have m36 := (e5.trans e6) _ _ m3
      have m26 := (e3.trans (e5.trans e6)) _ _ m2
      have y0 : 0 ≤ sgV r.d r.tu r.qu (sgn r.qu r.pe) L left (r.rs.drop (row + 1)) ts z x := by
        have := inn_nn (t := r.tu) (q := z) (L := L) ts
        unfold sgV
        omega
      generalize upd H5 l6 (.lst [V.int (x - s), .int (sgV r.d r.tu r.qu (sgn r.qu r.pe) L left (r.rs.drop (row + 1)) ts z x)]) = H6 at e06 m6 m36 m26 ⊢
      refine ⟨fun σ H' => ∃ fs : List Int, σ = [some (.ref p), some (.ref l), some (.int (L : Int)), some (.int s), some (.ref a), some (.int z), some (.int (row : Int)), some (.int left), some (.ref l3), some (.ref l6), none] ∧ Ext H0 H' ∧ H' l6 = some (.lst (fs.map V.int)) ∧ fs.length ≤ 3 ∧ (∃ y ∈ fs, 0 ≤ y) ∧ mxl fs = sgV r.d r.tu r.qu (sgn r.qu r.pe) L left (r.rs.drop (row + 1)) (x :: ts) z s, ?_, ?_⟩
      · refine ⟨_, rfl, _, _, rfl, rfl, _, rfl, ?_⟩
        cases L with
        | zero =>
          refine iteF ⟨_, rfl, e06, m6, by show 2 ≤ 3; omega, ⟨_, List.mem_cons_of_mem _ List.mem_cons_self, y0⟩, ?_⟩
          rw [← sgV_zero]
          show max (x - s) (max _ 0) = _
          omega
        | succ L' =>
          rw [decide_eq_true (show ((L' + 1 : Nat) : Int) > 0 by omega)]
          have hsub : ((L' + 1 : Nat) : Int) - 1 = (L' : Int) := by omega
          refine iteT ⟨_, rfl, .inl ⟨rfl, _, SqL.of m6⟩, _, rfl, _, rfl, _, rfl, _, _, rfl, rfl, _, rfl, p, bx, ro, xs, r, row, L', left, s, z, l3, l2, ts, by dsimp only; rw [hsub]; rfl, hD.ext e06, hF, hrow, left1, hsz, hup.2.2, ht8', m36, m26, by omega, fun H7 e7 => ?_⟩
          have m7 := e7 _ _ m6
          refine ⟨l6, _, _, rfl, rfl, m7, small_sz (by show 2 ≤ 2000; omega), [x - s, sgV r.d r.tu r.qu (sgn r.qu r.pe) (L' + 1) left (r.rs.drop (row + 1)) ts z x, sgV r.d r.tu r.qu (sgn r.qu r.pe) L' left (r.rs.drop (row + 1)) ts z s], rfl, ext_mut (e06.trans e7) hl6, upd_same, by show 3 ≤ 3; omega, ⟨_, List.mem_cons_of_mem _ List.mem_cons_self, y0⟩, ?_⟩
          rw [← sgV_succ tu0 (sgn_up k.p1) hup]
          show max (x - s) (max _ (max _ 0)) = _
          have y1 : 0 ≤ sgV r.d r.tu r.qu (sgn r.qu r.pe) L' left (r.rs.drop (row + 1)) ts z s := by
            have := inn_nn (t := r.tu) (q := z) (L := L') ts
            unfold sgV
            omega
          omega
      rintro σ H7 ⟨fs, rfl, e7, m7, hf3, hex, hmx⟩
      refine ⟨_, rfl, l6, rfl, ⟨_, SqL.of m7⟩, fun C hC => ?_⟩
      refine lc_it (walk_list (xs := fs.map V.int)) (fun i H' => Ext H7 H' ∧ H' C = some (.lst ((fs.take i).map V.int))) ⟨Ext.upd hC, upd_same⟩ (fun i H' _ pv => SqL.of (pv.1 _ _ m7)) (fun i y H' H2' hi pv hy => ?_) (fun H' pv => ?_)
      · obtain ⟨e8, hC8⟩ := pv
        obtain ⟨rfl, hx⟩ := hy
        replace hx : (fs.map V.int)[i]? = some y := hx
        rw [List.getElem?_map] at hx
        obtain ⟨v, hv, rfl⟩ := Option.map_eq_some_iff.mp hx
        refine ⟨rfl, _, rfl, .inl ⟨_, rfl, _, hC8, small_sz (by rw [List.length_map, List.length_take]; omega), ext_mut e8 hC, ?_⟩⟩
        rw [upd_same, L2.take_snoc hv, List.map_append]; rfl
      · obtain ⟨e8, hC8⟩ := pv
        rw [List.take_of_length_le (by rw [List.length_map]; exact Nat.le_refl _)] at hC8
        have hpos : 0 < fs.length := by
          obtain ⟨y, hy, _⟩ := hex
          exact List.length_pos_of_mem hy
        refine ⟨C, fs, rfl, SqL.of hC8, by omega, fun m hm hmax => ?_⟩
        rw [mxl_is hm hmax hex, hmx]
        exact q _ ((e0.trans e7).trans e8)
theorem drop_at {rs : List Int} {row : Nat} {x : Int} (h : rs[row]? = some x) : rs.drop row = x :: rs.drop (row + 1) := by
  obtain ⟨hl, rfl⟩ := List.getElem?_eq_some_iff.mp h
  exact List.drop_eq_getElem_cons hl
/-- what a way to answer adds -/
def nxL (r : PlD) (L row : Nat) (left : Int) (b : Int) : List Int := if ¬ left > 1 ∧ row + 1 = r.rs.length then [] else [nxV r.d r.tu r.qu (sgn r.qu r.pe) L left (r.rs.drop (row + 1)) b]
theorem nxL_mx {r : PlD} {L row : Nat} {left b : Int} (t0 : 0 ≤ r.tu) (d0 : 0 ≤ r.d) (b0 : 0 ≤ b) : mxl (nxL r L row left b) = nxV r.d r.tu r.qu (sgn r.qu r.pe) L left (r.rs.drop (row + 1)) b := by
  have hm := Int.mul_nonneg (show 0 ≤ (L : Int) by omega) t0
  unfold nxL
  by_cases h : ¬ left > 1 ∧ row + 1 = r.rs.length
  · rw [if_pos h]
    unfold nxV
    rw [if_neg h.1, List.drop_of_length_le (by omega)]; rfl
  · rw [if_neg h]
    show max (nxV r.d r.tu r.qu (sgn r.qu r.pe) L left (r.rs.drop (row + 1)) b) 0 = _
    have : 0 ≤ nxV r.d r.tu r.qu (sgn r.qu r.pe) L left (r.rs.drop (row + 1)) b := by
      unfold nxV
      split
      · have := fut_nn (q := r.qu) (ss := sgn r.qu r.pe) (L := L) (show 0 ≤ 2 * r.d + (L : Int) * r.tu by omega) (r.rs.drop (row + 1)) (left - 1)
        unfold plV
        omega
      · split
        · exact Int.le_refl _
        · rename_i x rest _
          have := inn_nn (t := r.tu) (q := r.qu + b) (L := L) ((sgn r.qu r.pe).map (· + b))
          unfold sgV
          omega
    omega
theorem next_val {r : PlD} {row row' L : Nat} {left m z left' b : Int} {ts : List Int} (hn : NextIs r row left (m + b) ts z row' left') (b0 : 0 ≤ b) (t0 : 0 ≤ r.tu) : sgV r.d r.tu r.qu (sgn r.qu r.pe) L left' (r.rs.drop (row' + 1)) ts z m = nxV r.d r.tu r.qu (sgn r.qu r.pe) L left (r.rs.drop (row + 1)) b := by
  rcases hn with ⟨h1, rfl, rfl, rfl, rfl⟩ | ⟨h1, hx, rfl, rfl, rfl⟩
  · rw [sgV_nil (by omega) t0]
    unfold nxV
    rw [if_pos h1]
    unfold plV
    omega
  · unfold nxV
    rw [if_neg h1, drop_at hx]
    show _ = sgV r.d r.tu r.qu (sgn r.qu r.pe) L left' (r.rs.drop (row + 1 + 1)) ((sgn r.qu r.pe).map (· + b)) (r.qu + b) 0
    have e1 : (sgn r.qu r.pe).map (· + (m + b)) = ((sgn r.qu r.pe).map (· + b)).map (· + m) := by
      rw [List.map_map]
      congr 1
      funext y
      show y + (m + b) = y + b + m
      omega
    refine Eq.trans ?_ (sgV_shift (c := m))
    rw [e1, show r.qu + (m + b) = r.qu + b + m by omega, show (0 : Int) + m = m by omega]
theorem pl_ok {N : Nat} {f : Addr} {fd : FuncData} (F : Fun K "_law_played" "_law_played" s__law_played f fd) (T : Txt K mg A) (O__law_next : Own P w K mg base CX0 "_law_next" 1 pm__law_next (spNext K)) (O__law_played : Own P w K mg base CX0 "_law_played" (N + 2) pm__law_played (spPl K N)) (O__law_signs : Own P w K mg base CX0 "_law_signs" (N + 2) pm__law_signs (spSg K N)) : FnOk P w K mg base CX0 (N + 3) f fd pm__law_played (spPl K (N + 1)) := by
  refine F.ok sc__law_played (fun vs H Q E h => ?_) (fun cdv A' outer sh H vs Q E hr h => ?_)
  · obtain ⟨_, _, _, _, _, _, _, _, _, _, rfl, _⟩ := h
    rfl
  · obtain ⟨p, bx, ro, xs, r, row, L, left, m, s, rfl, hD, hF, hrow, left1, hsm, hN, q⟩ := h
    refine ⟨_, pss_cons (ps_set (i := 6) sc__law_played.nd rfl (Or.inl rfl) (pe_op op_sub (pv 1) (pv 5)))
      (pss_cons (ps_set (i := 7) sc__law_played.nd rfl (Or.inl rfl) (pe_lst (pa_cons (pv 6) pa_nil)))
      (pss_cons (ps_for PassesOwn.never rfl (pi_list (pe_lst (pa_cons (pe_op op_mul (pe_int) (pe_ix ix_list (pv 0) (pe_int) (fun _ _ => rfl))) (pa_cons (pe_op op_mul (pe_int) (pe_ix ix_list (pv 0) (pe_int) (fun _ _ => rfl))) pa_nil)))) (pg_name (i := 8) sc__law_played.nd rfl (Or.inl rfl)) (pss_cons (ps_set (i := 9) sc__law_played.nd rfl (Or.inl rfl) (pe_own O__law_next (hr.mono (by omega)) pass0 (pa_cons (pv 0) (pa_cons (pv 2) (pa_cons (pv 3) (pa_cons (pe_op op_add (pv 1) (pv 8)) pa_nil))))))
      (pss_one (ps_if (pt_cmpR op_notN (pv 9) (pe_non) (nomark _)) (pss_one (ps_expr (pe_bm PySem.F.plainAttrs_list PySem.F.slot_list_append PySem.F.type_list_append mt_append (pv 7) (pa_cons (pe_own O__law_signs (hr.mono (by omega)) pass0 (pa_cons (pv 0) (pa_cons (pv 9) (pa_cons (pv 4) (pa_cons (pv 1) pa_nil))))) pa_nil)))) (pss_nil)))))
      (Evl.pss_cut (ps_if (pt_cmpR op_gt (pv 4) (pe_int) (nomark _)) (pss_cons (ps_expr (pe_bm PySem.F.plainAttrs_list PySem.F.slot_list_append PySem.F.type_list_append mt_append (pv 7) (pa_cons (pe_own O__law_played (hr.mono (by omega)) pass0 (pa_cons (pv 0) (pa_cons (pe_op op_add (pv 1) (pe_ix ix_list (pv 0) (pe_int) (fun _ _ => rfl))) (pa_cons (pv 2) (pa_cons (pv 3) (pa_cons (pe_op op_sub (pv 4) (pe_int)) (pa_cons (pv 1) pa_nil))))))) pa_nil)))
      (pss_one (ps_expr (pe_bm PySem.F.plainAttrs_list PySem.F.slot_list_append PySem.F.type_list_append mt_append (pv 7) (pa_cons (pe_own O__law_played (hr.mono (by omega)) pass0 (pa_cons (pv 0) (pa_cons (pe_op op_add (pv 1) (pe_ix ix_list (pv 0) (pe_int) (fun _ _ => rfl))) (pa_cons (pv 2) (pa_cons (pv 3) (pa_cons (pe_op op_sub (pv 4) (pe_int)) (pa_cons (pv 5) pa_nil))))))) pa_nil))))) (pss_nil))
      (pss_one (ps_ret (pe_callB (cr_max rfl) (by rfl) T.n_max (by decide +kernel) (pa_cons (pe_lc (own := [("_law_number", 10)]) (g := gName 10) (by rfl) sc__law_played.nd (pi_list (pv 7)) (blkOk_by (own := [("_law_number", 10)]) (N := nm__law_played) (sc := defScope s__law_played) (by decide +kernel)) (fun _ _ _ _ _ => pg_name (i := 10) sc__law_played.nd rfl (Or.inl rfl)) (fun s1 H1 C1 cl fp => pts_nil) (fun s1 H1 C1 cl fp => pe_callTy call_int1 (by rfl) T.n_int (by decide +kernel) (pa_cons (pv 10) pa_nil))) pa_nil))))))), ?_⟩
    have k := hF.md.ok
    have d1 : 1 ≤ r.d := (md_fit hF.md).m1
    have l1 := hF.md.l1
    have ld := hF.md.ld
    have d50 := hF.md.d2
    have t1 := k.t1
    have tu0 : 0 ≤ r.tu := by omega
    have hss := hF.few
    have hp := hD.p
    refine ⟨_, rfl, _, rfl, _, _, rfl, rfl, _, rfl, by show 1 ≤ sizeLine; decide, fun l0 h0 => ?_⟩
    have e0 := Ext.upd (o := .lst [V.int (m - s)]) h0
    have m0 : upd H l0 (.lst [V.int (m - s)]) l0 = some (.lst ([m - s].map V.int)) := upd_same
    generalize upd H l0 (.lst [V.int (m - s)]) = H0 at e0 m0 ⊢
    have hp0 := e0 _ _ hp
    refine ⟨_, rfl, p, _, 1, .int r.l, rfl, rfl, SqL.of hp0, atI_nat (j := 1) rfl, _, _, rfl, rfl, .inl ⟨by decide, by decide⟩, _, rfl, p, _, 2, .int r.d, rfl, rfl, SqL.of hp0, atI_nat (j := 2) rfl, _, _, rfl, rfl, .inl ⟨by decide, by decide⟩, by show 2 ≤ sizeLine; decide, fun lb hb => ?_⟩
    have eb := Ext.upd (o := .lst [V.int (2 * r.l), .int (2 * r.d)]) hb
    have mb : upd H0 lb (.lst [V.int (2 * r.l), .int (2 * r.d)]) lb = some (.lst ([2 * r.l, 2 * r.d].map V.int)) := upd_same
    have hlb : lb ≠ l0 := fun e => by rw [e, m0] at hb; cases hb
    have e0b := e0.trans eb
    have m0b := eb _ _ m0
    have hl0 : H l0 = none := h0
    refine ⟨lb, rfl, ⟨_, SqL.of mb⟩, ?_⟩
    refine for_list (xs := [2 * r.l, 2 * r.d].map V.int) (fun i σ' H' => ∃ (fs : List Int) (o8 o9 : Option V), σ' = [some (.ref p), some (.int m), some (.int (row : Int)), some (.int left), some (.int (L : Int)), some (.int s), some (.int (m - s)), some (.ref l0), o8, o9, none] ∧ Ext H H' ∧ H' lb = some (.lst ([2 * r.l, 2 * r.d].map V.int)) ∧ H' l0 = some (.lst (fs.map V.int)) ∧ fs = (m - s) :: ([2 * r.l, 2 * r.d].take i).flatMap (nxL r L row left)) ⟨[m - s], _, _, rfl, e0b, mb, m0b, rfl⟩ (fun i σ' H' _ pv => by obtain ⟨_, _, _, _, _, e, _⟩ := pv; exact SqL.of e) (fun i x σ' H1 hxi pv => ?_) (fun σ' H1 pv => ?_)
    · obtain ⟨fs, o8, o9, rfl, e1, mb1, m1, hfs⟩ := pv
      rw [List.getElem?_map] at hxi
      obtain ⟨b, hb', rfl⟩ := Option.map_eq_some_iff.mp hxi
      have b0 : 0 ≤ b := by
        have := List.mem_of_getElem? hb'
        simp only [List.mem_cons, List.not_mem_nil, or_false] at this
        rcases this with rfl | rfl <;> omega
      have hstep : ([2 * r.l, 2 * r.d].take (i + 1)).flatMap (nxL r L row left) = ([2 * r.l, 2 * r.d].take i).flatMap (nxL r L row left) ++ nxL r L row left b := by
        rw [L2.take_snoc hb', List.flatMap_append, List.flatMap_cons, List.flatMap_nil, List.append_nil]
      have hi2 : i < 2 := (List.getElem?_eq_some_iff.mp hb').1
      have hnl : ∀ c, (nxL r L row left c).length ≤ 1 := fun c => by unfold nxL; split <;> simp
      have hlen : fs.length ≤ 3 := by
        rw [hfs, List.length_cons]
        have : (([2 * r.l, 2 * r.d].take i).flatMap (nxL r L row left)).length ≤ 2 := by
          have h1 := hnl (2 * r.l)
          have h2 := hnl (2 * r.d)
          rcases i with _ | _ | i
          · exact Nat.zero_le _
          · show (nxL r L row left (2 * r.l) ++ []).length ≤ 2
            rw [List.append_nil]; omega
          · omega
        omega
      refine ⟨_, rfl, _, rfl, _, rfl, _, rfl, _, rfl, _, _, rfl, rfl, p, bx, ro, xs, r, row, left, m + b, rfl, hD.ext e1, hF.md, hrow, fun h1 h2 H2 e2 => ?_, fun l sA ts z row' left' H2 e2 ml ms hn => ?_⟩
      · refine ⟨_, rfl, rfl, _, rfl, ?_⟩
        rw [decide_eq_true rfl]
        exact iteF ⟨fs, _, _, rfl, e1.trans e2, e2 _ _ mb1, e2 _ _ m1, by rw [hstep, hfs, show nxL r L row left b = [] from if_pos ⟨h1, h2⟩, List.append_nil]⟩
      · refine ⟨_, rfl, rfl, _, rfl, ?_⟩
        rw [decide_eq_false (fun z => by cases z)]
        have hv : ¬ (¬ left > 1 ∧ row + 1 = r.rs.length) := fun ⟨h1, h2⟩ => by
          rcases hn with ⟨h3, _⟩ | ⟨_, h3, _⟩
          · exact h1 h3
          · have := (List.getElem?_eq_some_iff.mp h3).1
            omega
        have hrow' : row' < r.rs.length ∧ 1 ≤ left' ∧ m ≤ z ∧ Up z ts ∧ ts.length ≤ 8 ∧ pcs left' (r.rs.drop (row' + 1)) + 1 = pcs left (r.rs.drop (row + 1)) := by
          rcases hn with ⟨h3, rfl, rfl, rfl, rfl⟩ | ⟨h3, hx, rfl, rfl, rfl⟩
          · refine ⟨hrow, by omega, by omega, True.intro, Nat.zero_le _, ?_⟩
            unfold pcs
            omega
          · have hx1 := (k.rr left' (List.mem_of_getElem? hx)).1
            refine ⟨(List.getElem?_eq_some_iff.mp hx).1, hx1, by have := k.q1; omega, up_shift _ (sgn_up k.p1), by rw [List.length_map]; exact hss, ?_⟩
            rw [drop_at hx]
            unfold pcs
            rw [List.map_cons, List.sum_cons]
            omega
        obtain ⟨g1, g2, g3, g4, g5, g6⟩ := hrow'
        have m12 := e2 _ _ m1
        refine iteT ⟨_, rfl, .inl ⟨rfl, _, SqL.of m12⟩, _, rfl, _, rfl, _, rfl, _, rfl, p, bx, ro, xs, r, row', L, left', m, z, l, sA, ts, rfl, hD.ext (e1.trans e2), hF, g1, g2, g3, g4, g5, ml, ms, by omega, fun H3 e3 => ?_⟩
        rw [next_val hn b0 tu0]
        have m13 := e3 _ _ m12
        refine ⟨l0, _, _, rfl, rfl, m13, small_sz (by rw [List.length_map]; omega), fs ++ [nxV r.d r.tu r.qu (sgn r.qu r.pe) L left (r.rs.drop (row + 1)) b], _, _, rfl, ext_mut ((e1.trans e2).trans e3) hl0, ?_, ?_, ?_⟩
        · rw [upd_ne hlb]
          exact (e2.trans e3) _ _ mb1
        · rw [upd_same, List.map_append]; rfl
        · rw [hstep, hfs, show nxL r L row left b = [_] from if_neg hv]; rfl
    · obtain ⟨fs, o8, o9, rfl, e1, mb1, m1, hfs⟩ := pv
      have hlen3 : fs.length ≤ 3 := by
        have hnl : ∀ c, (nxL r L row left c).length ≤ 1 := fun c => by unfold nxL; split <;> simp
        have h1 := hnl (2 * r.l)
        have h2 := hnl (2 * r.d)
        rw [hfs, List.length_cons]
        show (nxL r L row left (2 * r.l) ++ (nxL r L row left (2 * r.d) ++ [])).length + 1 ≤ 3
        rw [List.append_nil, List.length_append]
        omega
      have hmx : mxl fs = max (m - s) (max (nxV r.d r.tu r.qu (sgn r.qu r.pe) L left (r.rs.drop (row + 1)) (2 * r.l)) (nxV r.d r.tu r.qu (sgn r.qu r.pe) L left (r.rs.drop (row + 1)) (2 * r.d))) := by
        rw [hfs]
        show max (m - s) (mxl (nxL r L row left (2 * r.l) ++ (nxL r L row left (2 * r.d) ++ []))) = _
        rw [List.append_nil, mxl_app, nxL_mx tu0 (by omega) (by omega), nxL_mx tu0 (by omega) (by omega)]
      have hms : m - s ∈ fs := by rw [hfs]; exact List.mem_cons_self
      refine ⟨fun σ H' => ∃ (fs : List Int) (o8 o9 : Option V), σ = [some (.ref p), some (.int m), some (.int (row : Int)), some (.int left), some (.int (L : Int)), some (.int s), some (.int (m - s)), some (.ref l0), o8, o9, none] ∧ Ext H H' ∧ H' l0 = some (.lst (fs.map V.int)) ∧ fs.length ≤ 5 ∧ (∃ y ∈ fs, 0 ≤ y) ∧ mxl fs = plV r.d r.tu r.qu (sgn r.qu r.pe) L left (r.rs.drop (row + 1)) m s, ?_, ?_⟩
      · refine ⟨_, rfl, _, _, rfl, rfl, _, rfl, ?_⟩
        cases L with
        | zero =>
          exact iteF ⟨fs, _, _, rfl, e1, m1, by omega, ⟨_, hms, by omega⟩, by rw [hmx, plV_zero (by omega) ld tu0 left1]⟩
        | succ L' =>
          rw [decide_eq_true (show ((L' + 1 : Nat) : Int) > 0 by omega)]
          have hsub : ((L' + 1 : Nat) : Int) - 1 = (L' : Int) := by omega
          have hp1 := e1 _ _ hp
          refine iteT ⟨_, rfl, .inl ⟨rfl, _, SqL.of m1⟩, _, rfl, _, rfl, _, rfl, p, _, 5, .int r.tu, rfl, rfl, SqL.of hp1, atI_nat (j := 5) rfl, _, _, rfl, rfl, _, rfl, _, rfl, _, rfl, _, _, rfl, rfl, _, rfl, p, bx, ro, xs, r, row, L', left, m + r.tu, m, by dsimp only; rw [hsub]; rfl, hD.ext e1, hF, hrow, left1, by omega, by omega, fun H2 e2 => ?_⟩
          have m12 := e2 _ _ m1
          refine ⟨l0, _, _, rfl, rfl, m12, small_sz (by rw [List.length_map]; omega), ?_⟩
          have e13 := ext_mut (D := l0) (o := .lst (fs.map V.int ++ [V.int (plV r.d r.tu r.qu (sgn r.qu r.pe) L' left (r.rs.drop (row + 1)) (m + r.tu) m)])) (e1.trans e2) hl0
          have m13 : upd H2 l0 (.lst (fs.map V.int ++ [V.int (plV r.d r.tu r.qu (sgn r.qu r.pe) L' left (r.rs.drop (row + 1)) (m + r.tu) m)])) l0 = some (.lst ((fs ++ [plV r.d r.tu r.qu (sgn r.qu r.pe) L' left (r.rs.drop (row + 1)) (m + r.tu) m]).map V.int)) := by rw [upd_same, List.map_append]; rfl
          generalize upd H2 l0 (.lst (fs.map V.int ++ [V.int (plV r.d r.tu r.qu (sgn r.qu r.pe) L' left (r.rs.drop (row + 1)) (m + r.tu) m)])) = H3 at e13 m13 ⊢
          have hp3 := e13 _ _ hp
          refine ⟨_, rfl, .inl ⟨rfl, _, SqL.of m13⟩, _, rfl, _, rfl, _, rfl, p, _, 5, .int r.tu, rfl, rfl, SqL.of hp3, atI_nat (j := 5) rfl, _, _, rfl, rfl, _, rfl, _, rfl, _, rfl, _, _, rfl, rfl, _, rfl, p, bx, ro, xs, r, row, L', left, m + r.tu, s, by dsimp only; rw [hsub]; rfl, hD.ext e13, hF, hrow, left1, by omega, by omega, fun H4 e4 => ?_⟩
          have m14 := e4 _ _ m13
          refine ⟨l0, _, _, rfl, rfl, m14, small_sz (by rw [List.length_map, List.length_append]; show fs.length + 1 ≤ 2000; omega), (fs ++ [plV r.d r.tu r.qu (sgn r.qu r.pe) L' left (r.rs.drop (row + 1)) (m + r.tu) m]) ++ [plV r.d r.tu r.qu (sgn r.qu r.pe) L' left (r.rs.drop (row + 1)) (m + r.tu) s], _, _, rfl, ext_mut (e13.trans e4) hl0, by rw [upd_same, List.map_append (l₁ := fs ++ _)]; rfl, by rw [List.length_append, List.length_append]; show fs.length + 1 + 1 ≤ 5; omega, ⟨_, List.mem_append_left _ (List.mem_append_left _ hms), by omega⟩, ?_⟩
          rw [mxl_app, mxl_app, hmx, ← plV_succ (by omega) ld tu0 (sgn_up k.p1) left1 hsm]
          have y1 : 0 ≤ plV r.d r.tu r.qu (sgn r.qu r.pe) L' left (r.rs.drop (row + 1)) (m + r.tu) m := by
            have := Int.mul_nonneg (show 0 ≤ (L' : Int) by omega) tu0
            unfold plV
            omega
          have y2 : 0 ≤ plV r.d r.tu r.qu (sgn r.qu r.pe) L' left (r.rs.drop (row + 1)) (m + r.tu) s := by
            have := Int.mul_nonneg (show 0 ≤ (L' : Int) by omega) tu0
            unfold plV
            omega
          show max (max _ (max _ 0)) (max _ 0) = _
          omega
      rintro σ H7 ⟨fs, o8, o9, rfl, e7, m7, hf3, hex, hmx⟩
      refine ⟨_, rfl, l0, rfl, ⟨_, SqL.of m7⟩, fun C hC => ?_⟩
      refine lc_it (walk_list (xs := fs.map V.int)) (fun i H' => Ext H7 H' ∧ H' C = some (.lst ((fs.take i).map V.int))) ⟨Ext.upd hC, upd_same⟩ (fun i H' _ pv => SqL.of (pv.1 _ _ m7)) (fun i y H' H2' hi pv hy => ?_) (fun H' pv => ?_)
      · obtain ⟨e8, hC8⟩ := pv
        obtain ⟨rfl, hx⟩ := hy
        replace hx : (fs.map V.int)[i]? = some y := hx
        rw [List.getElem?_map] at hx
        obtain ⟨v, hv, rfl⟩ := Option.map_eq_some_iff.mp hx
        refine ⟨rfl, _, rfl, .inl ⟨_, rfl, _, hC8, small_sz (by rw [List.length_map, List.length_take]; omega), ext_mut e8 hC, ?_⟩⟩
        rw [upd_same, L2.take_snoc hv, List.map_append]; rfl
      · obtain ⟨e8, hC8⟩ := pv
        rw [List.take_of_length_le (by rw [List.length_map]; exact Nat.le_refl _)] at hC8
        have hpos : 0 < fs.length := by
          obtain ⟨y, hy, _⟩ := hex
          exact List.length_pos_of_mem hy
        refine ⟨C, fs, rfl, SqL.of hC8, by omega, fun m' hm hmax => ?_⟩
        rw [mxl_is hm hmax hex, hmx]
        exact q _ (e7.trans e8)
theorem own_pair (Dp : DefAt K mg "_law_played" s__law_played pm__law_played) (Ds : DefAt K mg "_law_signs" s__law_signs pm__law_signs) (T : Txt K mg A) (O__law_next : Own P w K mg base CX0 "_law_next" 1 pm__law_next (spNext K)) : ∀ N, Own P w K mg base CX0 "_law_played" (N + 2) pm__law_played (spPl K N) ∧ Own P w K mg base CX0 "_law_signs" (N + 2) pm__law_signs (spSg K N)
  | 0 => by
    have no1 : ∀ {vs : List V} {H : Hp} {Q : VK} {E : XK}, ¬ spPl K 0 vs H Q E := fun ⟨_, _, _, _, _, _, _, left, _, _, _, _, _, _, h1, _, h2, _⟩ => by
      unfold pcs at h2
      omega
    have no2 : ∀ {vs : List V} {H : Hp} {Q : VK} {E : XK}, ¬ spSg K 0 vs H Q E := fun ⟨_, _, _, _, _, _, _, left, _, _, _, _, _, _, _, _, _, h1, _, _, _, _, _, h2, _⟩ => by
      omega
    exact ⟨Dp.own fun f fd F => F.ok sc__law_played (fun vs H Q E h => (no1 h).elim) (fun cdv A' outer sh H vs Q E hr h => (no1 h).elim), Ds.own fun f fd F => F.ok sc__law_signs (fun vs H Q E h => (no2 h).elim) (fun cdv A' outer sh H vs Q E hr h => (no2 h).elim)⟩
  | N + 1 => by
    obtain ⟨h1, h2⟩ := own_pair Dp Ds T O__law_next N
    exact ⟨Dp.own fun f fd F => pl_ok F T O__law_next h1 h2, Ds.own fun f fd F => sg_ok F T h1 h2⟩
theorem ok_playedA {f : Addr} {fd : FuncData} (F : Fun K "_law_played" "_law_played" s__law_played f fd) (T : Txt K mg A) (D__law_played : DefAt K mg "_law_played" s__law_played pm__law_played) (D__law_signs : DefAt K mg "_law_signs" s__law_signs pm__law_signs) (O__law_next : Own P w K mg base CX0 "_law_next" 1 pm__law_next (spNext K)) : FnOk P w K mg base CX0 52 f fd pm__law_played (spPl K 50) := by
  exact pl_ok (N := 49) F T O__law_next (own_pair D__law_played D__law_signs T O__law_next 49).1 (own_pair D__law_played D__law_signs T O__law_next 49).2
end
end K29

set_option Elab.async false
set_option maxRecDepth 100000
set_option maxHeartbeats 4000000
namespace K29
open PySem PySem.Spec PyProof.Rows L2 K31
/-- a road whose runs can all be gone through -/
structure SmOk (r : PlD) : Prop where
  fw : Few r
  lo : r.lo ≤ 2
  len : r.rs.length ≤ 2
  two : ∀ x ∈ r.rs, x ≤ 2
theorem sgn_few {q p : Int} (q1 : 1 ≤ q) (h : q ≤ 4 * p) (p1 : 1 ≤ p) : (sgn q p).length ≤ 8 := by
  rw [sgn_len]
  have : (q - 1) / p < 4 := Int.ediv_lt_of_lt_mul (by omega) (by omega)
  omega
section
variable {P : Program} {w : World} {K : PySem.W.Frag} {mg : Str → Option Value} {base : Heap} {A : Ad}
def spSmall : Sp := fun vs H Q _ => ∃ (st : Addr), vs = [.ref st] ∧ PoolD H st ∧ ∀ (p bx ro : Addr) (xs : List V) (r : PlD) H', Drawn H' p bx ro xs r → SmOk r → PoolD H' st → ExtM st H H' → Q (.ref p) H'
theorem ok_small {f : Addr} {fd : FuncData} (F : Fun K "_law_small" "_law_small" s__law_small f fd) (T : Txt K mg A) (O__law_take : Own P w K mg base CX0 "_law_take" 1 pm__law_take spTake) (O__law_road : Own P w K mg base CX0 "_law_road" 2 pm__law_road spRoadDraw) : FnOk P w K mg base CX0 3 f fd pm__law_small spSmall := by
  refine F.ok sc__law_small (fun vs H Q E h => ?_) (fun cdv A' outer s H vs Q E hr h => ?_)
  · obtain ⟨_, rfl, _⟩ := h
    rfl
  · obtain ⟨st, rfl, hst, q⟩ := h
    refine ⟨_, pss_cons (ps_set (i := 1) sc__law_small.nd rfl (Or.inl rfl) (pe_own O__law_road (hr.mono (by decide)) pass0 (pa_cons (pv 0) (pa_cons (pe_int) pa_nil))))
      (pss_cons (ps_asg (pe_tup (pa_cons (pe_op op_add (pe_int) (pe_own O__law_take (hr.mono (by decide)) pass0 (pa_cons (pv 0) (pa_cons (pe_int) pa_nil)))) (pa_cons (pe_lc (own := [("_law_turn", 2)]) (g := gName 2) (by rfl) sc__law_small.nd (pi_range1 rfl T.n_range (pa_cons (pe_op op_add (pe_int) (pe_own O__law_take (hr.mono (by decide)) pass0 (pa_cons (pv 0) (pa_cons (pe_int) pa_nil)))) pa_nil)) (blkOk_by (own := [("_law_turn", 2)]) (N := nm__law_small) (sc := defScope s__law_small) (by decide +kernel)) (fun _ _ _ _ _ => pg_name (i := 2) sc__law_small.nd rfl (Or.inl rfl)) (fun s1 H1 C1 cl fp => pts_nil) (fun s1 H1 C1 cl fp => pe_op op_add (pe_int) (pe_own O__law_take (hr.mono (by decide)) pass0 (pa_cons (pv 0) (pa_cons (pe_int) pa_nil))))) pa_nil))) (pg_tup rfl (pgs_cons (pg_sub (pv 1) (pe_int) set_list) (pgs_cons (pg_sub (pv 1) (pe_int) set_list) (pgs_nil)))))
      (pss_cons (ps_asg (pe_op op_add (pe_int) (pe_own O__law_take (hr.mono (by decide)) pass0 (pa_cons (pv 0) (pa_cons (pe_int) pa_nil)))) (pg_sub (pv 1) (pe_int) set_list))
      (pss_cons (ps_asg (pe_op op_add (pe_op op_add (pe_int) (pe_op op_fdiv (pe_ix ix_list (pv 1) (pe_int) (fun _ _ => rfl)) (pe_int))) (pe_own O__law_take (hr.mono (by decide)) pass0 (pa_cons (pv 0) (pa_cons (pe_int) pa_nil)))) (pg_sub (pv 1) (pe_int) set_list))
      (pss_one (ps_ret (pv 1)))))), ?_⟩
    refine ⟨_, rfl, st, rfl, hst, fun p bx ro xs r H1 hD hO hps hbs hrs hpn hbn hrn hst1 x1 => ?_⟩
    refine ⟨_, rfl, st, 2, rfl, hst1, by decide, by decide, fun y1 H2 a0 a1 hst2 x2 => ⟨_, _, rfl, rfl, ?_⟩⟩
    refine ⟨_, rfl, st, 2, rfl, hst2, by decide, by decide, fun y2 H3 b0 b1 hst3 x3 => ⟨_, _, rfl, rfl, _, rfl, by omega, by omega, fun C hC => ?_⟩⟩
    obtain ⟨n2, hn2⟩ : ∃ n2 : Nat, y2 = (n2 : Int) := ⟨y2.toNat, by omega⟩
    rw [show ((1 : Int) + y2).toNat = n2 + 1 by omega]
    have hCs := hst3.new hC
    refine lc_range (fun j H' => ∃ ns : List Int, PoolD H' st ∧ ExtM st H3 H' ∧ H' C = some (.lst (ns.map V.int)) ∧ ns.length = j ∧ ∀ x ∈ ns, 1 ≤ x ∧ x ≤ 2) ⟨[], hst3.ext (Ext.upd hC), Ext.m (Ext.upd hC), upd_same, rfl, fun x hx => (by cases hx)⟩ (fun j H' hj pv => ?_) (fun H4 pv => ?_)
    · obtain ⟨ns, hs', x', hC', hnl, hns⟩ := pv
      refine ⟨rfl, _, rfl, st, 2, rfl, hs', by decide, by decide, fun y3 H5 c0 c1 hst5 x5 => ⟨_, _, rfl, rfl, ?_⟩⟩
      have hC5 := x5 _ _ hCs hC'
      refine ⟨_, hC5, small_sz (by rw [List.length_map]; omega), ns ++ [1 + y3], ?_, ?_, ?_, by rw [List.length_append, hnl]; rfl, fun x hx => ?_⟩
      · obtain ⟨a, b, e, f⟩ := hst5
        exact ⟨a, b, by rw [upd_ne hCs.symm]; exact e, f⟩
      · intro a o hn ho
        rw [upd_ne (fun z => by rw [z, hC] at ho; cases ho)]
        exact (x'.trans x5) a o hn ho
      · rw [upd_same, List.map_append]; rfl
      · rcases List.mem_append.mp hx with h | h
        · exact hns x h
        · rw [List.mem_singleton.mp h]
          omega
    · obtain ⟨ns, hst4, x4, hC4, hnl, hns⟩ := pv
      refine ⟨by show 2 ≤ sizeLine; decide, fun t ht => ?_⟩
      have et := Ext.upd (o := .tup [V.int (1 + y1), .ref C]) ht
      have mt := upd_same (a := t) (o := .tup [V.int (1 + y1), .ref C]) (H := H4)
      have x14 := (x2.trans x3).trans x4
      have hp5 := et _ _ (x14 _ _ hps hD.p)
      have hpC : C ≠ p := fun e => by
        have := x3 _ _ hps (x2 _ _ hps hD.p)
        rw [← e, hC] at this
        cases this
      have hbp : bx ≠ p := fun e => by
        have h1 := hD.bx
        rw [e, hD.p] at h1
        injection h1 with h1
        injection h1 with h1
        have h2 := hD.xs.len
        have h3 := hO.b3
        rw [← h1] at h2
        have h2 : 10 = r.bs.length := h2
        omega
      have hC5 := et _ _ hC4
      have hb5 := et _ _ (x14 _ _ hbs hD.bx)
      have hx5 : BxAt (upd H4 t (.tup [V.int (1 + y1), .ref C])) xs r.bs := (hD.xs.to (poolTup hst1 x14)).to fun a zs ha => et _ _ ha
      have hst5 := hst4.ext et
      have x05 := (x1.trans x14).trans (Ext.m et)
      refine ⟨t, _, rfl, SqT.of mt, rfl, _, _, rfl, ?_⟩
      clear mt
      generalize upd H4 t (.tup [V.int (1 + y1), .ref C]) = H5 at et hp5 hC5 hb5 hx5 hst5 x05 ⊢
      -- what writes to p keeps the rest
      have wr : ∀ {J : Hp} {ys zs : List V}, J p = some (.lst ys) → PoolD J st → ExtM st H J → J bx = some (.lst xs) → J C = some (.lst (ns.map V.int)) → BxAt J xs r.bs → PoolD (upd J p (.lst zs)) st ∧ ExtM st H (upd J p (.lst zs)) ∧ upd J p (.lst zs) bx = some (.lst xs) ∧ upd J p (.lst zs) C = some (.lst (ns.map V.int)) ∧ BxAt (upd J p (.lst zs)) xs r.bs := fun {J ys zs} h1 h2 h3 h4 h5 h6 => by
        refine ⟨?_, fun a o hn ho => ?_, by rw [upd_ne hbp]; exact h4, by rw [upd_ne hpC]; exact h5, h6.to fun a zs ha => mutTup h1 _ _ ha⟩
        · obtain ⟨a, b, e, f⟩ := h2
          exact ⟨a, b, by rw [upd_ne hps.symm]; exact e, f⟩
        · rw [upd_ne (fun z => by rw [z, hpn] at ho; cases ho)]
          exact h3 a o hn ho
      refine ⟨_, rfl, p, _, 6, 6, rfl, rfl, hp5, rfl, _, _, rfl, _, rfl, p, _, 7, 7, rfl, rfl, upd_same, rfl, rfl, ?_⟩
      obtain ⟨w1, w2, w3, w4, w5⟩ := wr (zs := [V.int r.o, .int r.l, .int r.d, .ref bx, .int r.la, .int r.tu, .int (1 + y1), .ref ro, .int r.qu, .int r.pe]) hp5 hst5 x05 hb5 hC5 hx5
      have hp6 := upd_same (a := p) (o := .lst [V.int r.o, .int r.l, .int r.d, .ref bx, .int r.la, .int r.tu, .int (1 + y1), .ref ro, .int r.qu, .int r.pe]) (H := H5)
      obtain ⟨v1, v2, v3, v4, v5⟩ := wr (zs := [V.int r.o, .int r.l, .int r.d, .ref bx, .int r.la, .int r.tu, .int (1 + y1), .ref C, .int r.qu, .int r.pe]) hp6 w1 w2 w3 w4 w5
      have hp7 := upd_same (a := p) (o := .lst [V.int r.o, .int r.l, .int r.d, .ref bx, .int r.la, .int r.tu, .int (1 + y1), .ref C, .int r.qu, .int r.pe]) (H := upd H5 p (.lst [V.int r.o, .int r.l, .int r.d, .ref bx, .int r.la, .int r.tu, .int (1 + y1), .ref ro, .int r.qu, .int r.pe]))
      clear w1 w2 w3 w4 w5 hp6
      refine ⟨_, rfl, st, 12, rfl, v1, by decide, by decide, fun y4 H8 d0 d1 hst8 x8 => ⟨_, _, rfl, rfl, _, rfl, ?_⟩⟩
      have hp8 := x8 _ _ hps hp7
      have b8 := x8 _ _ hbs v3
      have c8 := x8 _ _ hCs v4
      have t8 := v5.to (poolTup v1 x8)
      have x08 := v2.trans x8
      clear hp7 v1 v2 v3 v4 v5 x8
      refine ⟨p, _, 8, 8, rfl, rfl, hp8, rfl, ?_⟩
      obtain ⟨w1, w2, w3, w4, w5⟩ := wr (zs := [V.int r.o, .int r.l, .int r.d, .ref bx, .int r.la, .int r.tu, .int (1 + y1), .ref C, .int (1 + y4), .int r.pe]) hp8 hst8 x08 b8 c8 t8
      have hp9 := upd_same (a := p) (o := .lst [V.int r.o, .int r.l, .int r.d, .ref bx, .int r.la, .int r.tu, .int (1 + y1), .ref C, .int (1 + y4), .int r.pe]) (H := H8)
      refine ⟨_, rfl, p, _, 8, .int (1 + y4), rfl, rfl, SqL.of hp9, atI_nat (j := 8) rfl, _, _, rfl, rfl, ⟨by omega, by decide⟩, _, _, rfl, rfl, _, rfl, st, 8, rfl, w1, by decide, by decide, fun y5 H10 f0 f1 hst10 x10 => ⟨_, _, rfl, rfl, _, rfl, p, _, 9, 9, rfl, rfl, x10 _ _ hps hp9, rfl, ?_⟩⟩
      have hd4 : 0 ≤ (1 + y4) / 4 ∧ (1 + y4) / 4 ≤ 3 ∧ 1 + y4 ≤ 4 * ((1 + y4) / 4) + 3 := by omega
      obtain ⟨z1, z2, z3, z4, z5⟩ := wr (zs := [V.int r.o, .int r.l, .int r.d, .ref bx, .int r.la, .int r.tu, .int (1 + y1), .ref C, .int (1 + y4), .int (1 + (1 + y4) / 4 + y5)]) (x10 _ _ hps hp9) hst10 (w2.trans x10) (x10 _ _ hbs w3) (x10 _ _ hCs w4) (w5.to (poolTup w1 x10))
      have hpe : 1 ≤ 1 + (1 + y4) / 4 + y5 := by omega
      have hok : RdOk r.o r.l r.d r.la r.tu (1 + y1) (1 + y4) (1 + (1 + y4) / 4 + y5) ns := ⟨hO.a1, hO.a2, hO.t1, by have := hO.t2; omega, by omega, by omega, by omega, by omega, fun y hy => by have := hns y hy; omega, by omega, by omega, hpe, by omega⟩
      have hmd : MdOk ⟨r.o, r.l, r.d, r.bs, r.la, r.tu, 1 + y1, ns, 1 + y4, 1 + (1 + y4) / 4 + y5⟩ := ⟨hO.o1, hO.o2, hO.l1, hO.ld, by show r.d ≤ 50; have := hO.d2; omega, hO.bx, hO.b3, hok⟩
      have hfw : Few ⟨r.o, r.l, r.d, r.bs, r.la, r.tu, 1 + y1, ns, 1 + y4, 1 + (1 + y4) / 4 + y5⟩ := ⟨hmd, sgn_few (by show 1 ≤ 1 + y4; omega) (by show 1 + y4 ≤ 4 * (1 + (1 + y4) / 4 + y5); omega) hpe⟩
      exact ⟨_, rfl, q p bx C xs ⟨r.o, r.l, r.d, r.bs, r.la, r.tu, 1 + y1, ns, 1 + y4, 1 + (1 + y4) / 4 + y5⟩ _ ⟨upd_same, z3, z5, z4⟩ ⟨hfw, by show 1 + y1 ≤ 2; omega, by show ns.length ≤ 2; omega, fun x hx => (hns x hx).2⟩ z1 z2⟩
end
end K29

set_option Elab.async false
set_option maxRecDepth 100000
set_option maxHeartbeats 4000000
namespace K29
open PySem PySem.Spec PyProof.Rows L2 K31
def keyP (x : Str × Int) : Key × V := (.inr x.1, .int x.2)
theorem tups_ps {K : PySem.W.Frag} {H : Hp} : ∀ {L : List (Str × Int)} {zs : List V}, zs.length = L.length → TupsAt pairS L zs H → ∃ ps : List Addr, zs = ps.map V.ref ∧ Paired (fun p kv => SqT K H p [kV kv.1, kv.2]) ps (L.map keyP)
  | [], [], _, _ => ⟨[], rfl, .nil⟩
  | [], _ :: _, h, _ => by cases h
  | _ :: _, [], h, _ => by cases h
  | x :: L, v :: zs, h, ht => by
    obtain ⟨ps, e, hp⟩ := tups_ps (K := K) (L := L) (zs := zs) (Nat.succ.inj h) fun i u hu => by
      obtain ⟨t, c, a, b, d⟩ := ht (i + 1) u hu
      exact ⟨t, c, a, b, d⟩
    obtain ⟨t, c, rfl, b, d⟩ := ht 0 v rfl
    cases b
    exact ⟨t :: ps, by rw [e]; rfl, .cons (SqT.of d) hp⟩
def named (r : RdD) (o : Int) : List (Key × V) := mergeK [] ((gapsV r o).map keyP)
theorem named_race (r : RdD) (o : Int) : valV (named r o) (.inr "race") = some (.int (raceV r o)) := by
  unfold named gapsV
  cases rowV r <;> cases restV r <;> rfl
theorem named_row (r : RdD) (o : Int) : (valV (named r o) (.inr "row")).getD .non = oI (rowV r) := by
  unfold named gapsV
  cases rowV r <;> cases restV r <;> rfl
theorem named_rest (r : RdD) (o : Int) : (valV (named r o) (.inr "quiet")).getD .non = oI (restV r) := by
  unfold named gapsV
  cases rowV r <;> cases restV r <;> rfl
theorem oI_sc (a b : Option Int) : scal (oI a) (oI b) = true := by cases a <;> cases b <;> rfl
theorem kept_is (r : RdD) (o : Int) : (r.bs.filter fun q => decide (q.2.2.1 - (q.2.1 - q.1) < greatV r o)).isEmpty = keptV r o := by
  unfold keptV
  induction r.bs with
  | nil => rfl
  | cons q bs ih =>
    rw [List.filter_cons, List.all_cons, ← ih]
    by_cases h : q.2.2.1 - (q.2.1 - q.1) < greatV r o
    · rw [decide_eq_true h, if_pos rfl, decide_eq_false (by omega)]; rfl
    · rw [decide_eq_false h, if_neg (by decide), decide_eq_true (by omega)]; rfl
section
variable {P : Program} {w : World} {K : PySem.W.Frag} {mg : Str → Option Value} {base : Heap} {A : Ad}
theorem bx_at {H : Hp} : ∀ {vs : List V} {qs : List Bx} {i : Nat} {v : V}, BxAt H vs qs → vs[i]? = some v → ∃ t q, v = .ref t ∧ qs[i]? = some q ∧ H t = some (.tup [.int q.1, .int q.2.1, .int q.2.2.1, .int q.2.2.2])
  | _ :: _, q :: _, 0, _, ⟨⟨t, h1, h2⟩, _⟩, hv => by cases hv; exact ⟨t, q, h1, rfl, h2⟩
  | _ :: _, _ :: qs, i + 1, _, ⟨_, h⟩, hv => bx_at (qs := qs) (i := i) h hv
  | _ :: _, [], _, _, h, _ => h.elim
  | [], _, _, _, _, hv => by cases hv
def spTR (K : PySem.W.Frag) (A : Ad) : Sp := fun vs H Q _ => ∃ (p bx ro : Addr) (xs : List V) (r : PlD), vs = [.ref p] ∧ Drawn H p bx ro xs r ∧ MdOk r ∧ ∀ H', Ext H H' → Q (.bl true) H'
theorem ok_tr {f : Addr} {fd : FuncData} (F : Fun K "_law_told_right" "_law_told_right" s__law_told_right f fd) (T : Txt K mg A) (O__law_made : Own P w K mg base CX0 "_law_made" 7 pm__law_made (spMade K A)) (O__law_gaps : Own P w K mg base CX0 "_law_gaps" 3 pm__law_gaps (spLGaps K))
    (O_race_gap : Own P w K mg base CX0 "race_gap" 1 pm_race_gap (spRace K A)) (O_row_gap : Own P w K mg base CX0 "row_gap" 1 pm_row_gap (spRowG K A)) (O_rest_gap : Own P w K mg base CX0 "rest_gap" 8 pm_rest_gap (spRest K A)) (O_greatest_gap : Own P w K mg base CX0 "greatest_gap" 10 pm_greatest_gap (spGreat K A)) (O_gap_kind : Own P w K mg base CX0 "gap_kind" 11 pm_gap_kind (spKind K A)) (O_is_kept : Own P w K mg base CX0 "is_kept" 11 pm_is_kept (spKept K A)) : FnOk P w K mg base CX0 12 f fd pm__law_told_right (spTR K A) := by
  refine F.ok sc__law_told_right (fun vs H Q E h => ?_) (fun cdv A' outer s H vs Q E hr h => ?_)
  · obtain ⟨_, _, _, _, _, rfl, _⟩ := h
    rfl
  · obtain ⟨p, bx, ro, xs, r, rfl, hD, hm, q⟩ := h
    refine ⟨_, pss_cons (ps_par (i := 1) (j := 2) (by rfl) sc__law_told_right.nd rfl rfl (by decide) rfl rfl (pa_cons (pe_own O__law_made (hr.mono (by decide)) pass0 (pa_cons (pv 0) pa_nil)) (pa_cons (pe_own O__law_gaps (hr.mono (by decide)) pass0 (pa_cons (pv 0) pa_nil)) pa_nil)) (by rfl))
      (pss_cons (ps_set (i := 3) sc__law_told_right.nd rfl (Or.inl rfl) (pe_callTy (call_dictP rfl) (by rfl) T.n_dict (by decide +kernel) (pa_cons (pv 2) pa_nil)))
      (pss_cons (ps_if (PW.pt (pw_or (pt_cmpR op_ne (pe_own O_race_gap (hr.mono (by decide)) pass0 (pa_cons (pv 1) pa_nil)) (pe_dget (Nat.lt_of_le_of_lt (Nat.add_le_add_left (by decide) _) hr.units) (pv 3) (pe_str) (fun _ _ => rfl)) (nomark _)) (pw_or (pt_cmpR op_ne (pe_own O_row_gap (hr.mono (by decide)) pass0 (pa_cons (pv 1) pa_nil)) (pe_dget1 (Nat.lt_of_le_of_lt (Nat.add_le_add_left (by decide) _) hr.units) (pv 3) (pe_str) ⟨by rfl, by rfl, by rfl, by rfl⟩) (nomark _)) (pw_or1 (pt_cmpR op_ne (pe_own O_rest_gap (hr.mono (by decide)) pass0 (pa_cons (pv 1) pa_nil)) (pe_dget1 (Nat.lt_of_le_of_lt (Nat.add_le_add_left (by decide) _) hr.units) (pv 3) (pe_str) ⟨by rfl, by rfl, by rfl, by rfl⟩) (nomark _)))))) (pss_one (ps_ret (pe_bl))) (pss_nil))
      (pss_cons (ps_set (i := 4) sc__law_told_right.nd rfl (Or.inr rfl) (pe_callB (cr_max rfl) (by rfl) T.n_max (by decide +kernel) (pa_cons (pe_lc (own := [("_law_kind", 6), ("_law_gap_here", 7)]) (g := gTup K 2 (gCons (gName 6) (gCons (gName 7) (gNil)))) (by rfl) sc__law_told_right.nd (pi_list (pv 2)) (blkOk_by (own := [("_law_kind", 6), ("_law_gap_here", 7)]) (N := nm__law_told_right) (sc := defScope s__law_told_right) (by decide +kernel)) (fun _ _ _ _ _ => pg_tup rfl (pgs_cons (pg_name (i := 6) sc__law_told_right.nd rfl (Or.inl rfl)) (pgs_cons (pg_name (i := 7) sc__law_told_right.nd rfl (Or.inl rfl)) (pgs_nil)))) (fun s1 H1 C1 cl fp => pts_nil) (fun s1 H1 C1 cl fp => pe_callTy call_int1 (by rfl) T.n_int (by decide +kernel) (pa_cons (pv 7) pa_nil))) pa_nil)))
      (pss_cons (ps_setLc (i := 5) (own := [("_law_kind", 6), ("_law_gap_here", 7)]) (g := gTup K 2 (gCons (gName 6) (gCons (gName 7) (gNil)))) (by rfl) sc__law_told_right.nd rfl rfl (sw_true rfl rfl rfl (by decide +kernel)) (pi_list (pv 2)) (blkOk_by (own := [("_law_kind", 6), ("_law_gap_here", 7)]) (N := nm__law_told_right) (sc := defScope s__law_told_right) (by decide +kernel)) (fun _ _ _ _ _ => pg_tup rfl (pgs_cons (pg_name (i := 6) sc__law_told_right.nd rfl (Or.inl rfl)) (pgs_cons (pg_name (i := 7) sc__law_told_right.nd rfl (Or.inl rfl)) (pgs_nil)))) (fun s1 H1 C1 cl fp => pts_one (pt_cmpR op_eq (pv 7) (pv 4) (nomark _))) (fun s1 H1 C1 cl fp => pv 6))
      (pss_cons (ps_if (PW.pt (pw_or (pt_cmpR op_ne (pe_own O_greatest_gap (hr.mono (by decide)) pass0 (pa_cons (pv 1) pa_nil)) (pv 4) (nomark _)) (pw_or1 (pt_cmpR op_ne (pe_own O_gap_kind (hr.mono (by decide)) pass0 (pa_cons (pv 1) pa_nil)) (pe_ix ix_list (pv 5) (pe_int) (fun _ _ => rfl)) (nomark _))))) (pss_one (ps_ret (pe_bl))) (pss_nil))
      (pss_one (ps_ret (pe_cmpR op_eq (pe_own O_is_kept (hr.mono (by decide)) pass0 (pa_cons (pv 1) pa_nil)) (pe_cmpR (op_eqD hr.units) (pe_lc (own := [("_law_box", 8)]) (g := gName 8) (by rfl) sc__law_told_right.nd (pi_list (pe_ix ix_list (pv 0) (pe_int) (fun _ _ => rfl))) (blkOk_by (own := [("_law_box", 8)]) (N := nm__law_told_right) (sc := defScope s__law_told_right) (by decide +kernel)) (fun _ _ _ _ _ => pg_name (i := 8) sc__law_told_right.nd rfl (Or.inl rfl)) (fun s1 H1 C1 cl fp => pts_one (pt_cmpR op_lt (pe_op op_sub (pe_ix (ix_tupK (K := K) rfl) (pv 8) (pe_int) (fun _ _ => rfl)) (pe_op op_sub (pe_ix (ix_tupK (K := K) rfl) (pv 8) (pe_int) (fun _ _ => rfl)) (pe_ix (ix_tupK (K := K) rfl) (pv 8) (pe_int) (fun _ _ => rfl)))) (pv 4) (nomark _))) (fun s1 H1 C1 cl fp => pv 8)) (pe_lst (pa_nil)) (nomark _)) (nomark _))))))))), ?_⟩
    have hf := md_fit hm
    obtain ⟨hg1, hg3⟩ := gaps_len (rdOf r) r.o
    refine ⟨_, rfl, p, bx, ro, xs, r, rfl, hD, hm, fun rd H1 e1 hrn hR => ⟨_, rfl, p, bx, ro, xs, r, rfl, hD.ext e1, hm, fun l zs H2 e2 hl hzl hzt => ?_⟩⟩
    obtain ⟨ps, hps, hpp⟩ := tups_ps (K := K) hzl hzt
    obtain ⟨ps, hps, hpp⟩ := tups_ps (K := K) hzl hzt
    refine ⟨_, _, rfl, _, rfl, l, ps, _, rfl, hps ▸ SqL.of hl, hpp, fun d hd => ?_⟩
    have e3 : Ext H2 (upd H2 d (.dK (mergeK [] ((gapsV (rdOf r) r.o).map keyP)))) := Ext.upd hd
    have md : upd H2 d (.dK (mergeK [] ((gapsV (rdOf r) r.o).map keyP))) d = some (.dK (named (rdOf r) r.o)) := upd_same
    have e03 := (e1.trans e2).trans e3
    have hR3 := (hR.ext e2).ext e3
    have hl3 := e3 _ _ hl
    have hz3 := hzt.keep (ExtP.of (H := H2) e3)
    have hD3 := hD.ext e03
    generalize upd H2 d (.dK (mergeK [] ((gapsV (rdOf r) r.o).map keyP))) = H3 at e3 md e03 hR3 hl3 hz3 hD3 ⊢
    have g1 : DGet H3 d (.str "race") (some (.int (raceV (rdOf r) r.o))) := by
      rw [← named_race]
      exact DGet.k (k := .inr "race") md
    refine ⟨_, rfl, rd, rdOf r, r.o, rfl, hR3, hf, _, rfl, d, _, rfl, g1, rfl, _, rfl, ?_⟩
    rw [decide_eq_true rfl]
    have isd : ∀ {J : Hp}, Ext H3 J → IsD J d := fun e => .inl ⟨_, .inl (e _ _ md)⟩
    have g2 : ∀ {J : Hp}, Ext H3 J → DGet J d (.str "row") (valV (named (rdOf r) r.o) (.inr "row")) := fun e => DGet.k (k := .inr "row") (e _ _ md)
    have g3 : ∀ {J : Hp}, Ext H3 J → DGet J d (.str "quiet") (valV (named (rdOf r) r.o) (.inr "quiet")) := fun e => DGet.k (k := .inr "quiet") (e _ _ md)
    refine iteF ⟨_, rfl, rd, rdOf r, r.o, rfl, hR3, hf, fun J1 x1 => ⟨_, rfl, d, rfl, isd x1, _, g2 x1, ?_⟩⟩
    rw [named_row]
    refine ⟨oI_sc _ _, _, rfl, ?_⟩
    rw [decide_eq_true rfl]
    refine iteF ⟨_, rfl, rd, rdOf r, r.o, rfl, hR3.ext x1, hf, fun J2 x2 => ⟨_, rfl, d, rfl, isd (x1.trans x2), _, g3 (x1.trans x2), ?_⟩⟩
    rw [named_rest]
    refine ⟨oI_sc _ _, _, rfl, ?_⟩
    rw [decide_eq_true rfl]
    have x12 := x1.trans x2
    refine iteF ⟨.ref l, rfl, ?_⟩
    have lJ2 := x12 _ _ hl3
    have zJ2 := hz3.keep (ExtP.of (H := H3) x12)
    have rJ2 := hR3.ext x12
    have dJ2 := hD3.ext x12
    have e0J := e03.trans x12
    clear hl3 hz3 hR3 hD3 e03 g1 g2 g3 isd md
    refine ⟨l, rfl, ⟨_, SqL.of lJ2⟩, fun C hC => ?_⟩
    refine lc_it (walk_list (xs := zs)) (fun i H' => Ext J2 H' ∧ H' C = some (.lst ((((gapsV (rdOf r) r.o).map (·.2)).take i).map V.int))) ⟨Ext.upd hC, upd_same⟩ (fun i H' _ pv => SqL.of (pv.1 _ _ lJ2)) (fun i x H' H2' hi pv hy => ?_) (fun J3 pv => ?_)
    · obtain ⟨e2', hCz⟩ := pv
      obtain ⟨rfl, hx⟩ := hy
      replace hx : zs[i]? = some x := hx
      obtain ⟨t, c, rfl, hci, ht⟩ := zJ2 i x hx
      have hgi : ((gapsV (rdOf r) r.o).map (·.2))[i]? = some c.2 := by rw [List.getElem?_map, hci]; rfl
      refine ⟨t, _, rfl, SqT.of (e2' _ _ ht), rfl, _, _, rfl, _, _, rfl, rfl, rfl, _, rfl, .inl ⟨_, rfl, _, hCz, small_sz (by rw [List.length_map, List.length_take, List.length_map]; omega), ext_mut e2' hC, ?_⟩⟩
      rw [upd_same, L2.take_snoc hgi, List.map_append]; rfl
    obtain ⟨e4, hCz⟩ := pv
    rw [List.take_of_length_le (by rw [List.length_map]; omega)] at hCz
    refine ⟨C, (gapsV (rdOf r) r.o).map (·.2), rfl, SqL.of hCz, by rw [List.length_map]; omega, fun m hm' hmax => ?_⟩
    obtain rfl := great_is hf hm' hmax
    have lJ3 := e4 _ _ lJ2
    have zJ3 := zJ2.keep (ExtP.of (H := J2) e4)
    have rJ3 := rJ2.ext e4
    have dJ3 := dJ2.ext e4
    have e03 := e0J.trans e4
    clear lJ2 zJ2 rJ2 dJ2 e0J hC hCz e4
    refine ⟨_, rfl, l, rfl, ⟨_, SqL.of lJ3⟩, fun C2 hC2 => ?_⟩
    refine lc_it (walk_list (xs := zs)) (fun i H' => Ext J3 H' ∧ H' C2 = some (.lst (((((gapsV (rdOf r) r.o).take i).filter fun x => decide (x.2 = greatV (rdOf r) r.o)).map (·.1)).map V.str))) ⟨Ext.upd hC2, upd_same⟩ (fun i H' _ pv => SqL.of (pv.1 _ _ lJ3)) (fun i x H' H2' hi pv hy => ?_) (fun J4 pv => ?_)
    · obtain ⟨e2', hCz⟩ := pv
      obtain ⟨rfl, hx⟩ := hy
      replace hx : zs[i]? = some x := hx
      obtain ⟨t, c, rfl, hci, ht⟩ := zJ3 i x hx
      have hlen := List.length_filter_le (fun x : Str × Int => decide (x.2 = greatV (rdOf r) r.o)) ((gapsV (rdOf r) r.o).take i)
      rw [List.length_take] at hlen
      refine ⟨t, _, rfl, SqT.of (e2' _ _ ht), rfl, _, _, rfl, _, _, rfl, rfl, rfl, _, rfl, _, rfl, rfl, _, rfl, ?_⟩
      rw [dvi]
      by_cases hc : c.2 = greatV (rdOf r) r.o
      · rw [decide_eq_true hc]
        refine iteT ⟨_, rfl, _, hCz, small_sz (by rw [List.length_map, List.length_map]; omega), ext_mut e2' hC2, ?_⟩
        rw [upd_same, L2.take_snoc hci, List.filter_append, List.filter_cons, if_pos (decide_eq_true hc), List.map_append, List.map_append]; rfl
      · rw [decide_eq_false hc]
        refine iteF ⟨e2', ?_⟩
        rw [hCz, L2.take_snoc hci, List.filter_append, List.filter_cons, if_neg (by rw [decide_eq_true_eq]; exact hc)]
        simp
    obtain ⟨e4, hCz⟩ := pv
    rw [List.take_of_length_le (by omega)] at hCz
    obtain ⟨ws, hws⟩ := great_in hf
    rw [hws] at hCz
    have rJ4 := rJ3.ext e4
    have dJ4 := dJ3.ext e4
    have e04 := e03.trans e4
    refine ⟨_, rfl, rd, rdOf r, r.o, rfl, rJ4, hf, fun J5 x5 => ⟨_, rfl, rfl, _, rfl, ?_⟩⟩
    rw [decide_eq_true rfl]
    refine iteF ⟨_, rfl, rd, rdOf r, r.o, rfl, rJ4.ext x5, hf, fun J6 x6 => ⟨_, rfl, C2, _, 0, .str (kindV (rdOf r) r.o), rfl, rfl, SqL.of ((x5.trans x6) _ _ hCz), atI_nat (j := 0) rfl, rfl, _, rfl, ?_⟩⟩
    rw [decide_eq_true rfl]
    have x46 := x5.trans x6
    refine iteF ⟨_, rfl, rd, rdOf r, r.o, rfl, rJ4.ext x46, hf, fun J7 x7 => ?_⟩
    have e07 := e04.trans (x46.trans x7)
    obtain ⟨kp, kbx, kxs, kro⟩ := dJ4.ext (x46.trans x7)
    have hb3 : r.bs.length ≤ 3 := hf.b3
    refine ⟨_, rfl, p, _, 3, .ref bx, rfl, rfl, SqL.of kp, atI_nat (j := 3) rfl, bx, rfl, ⟨_, SqL.of kbx⟩, fun D hD => ?_⟩
    refine lc_it (walk_list (xs := xs)) (fun i H' => ∃ ys, Ext J7 H' ∧ H' D = some (.lst ys) ∧ BxAt H' ys ((r.bs.take i).filter fun q => decide (q.2.2.1 - (q.2.1 - q.1) < greatV (rdOf r) r.o))) ⟨[], Ext.upd hD, upd_same, trivial⟩ (fun i H' _ pv => by obtain ⟨_, e, _⟩ := pv; exact SqL.of (e _ _ kbx)) (fun i x H' H2' hi pv hy => ?_) (fun J8 pv => ?_)
    · obtain ⟨ys, e2', hCz, hys⟩ := pv
      obtain ⟨rfl, hx⟩ := hy
      replace hx : xs[i]? = some x := hx
      obtain ⟨t, b, rfl, hbi, ht⟩ := bx_at kxs hx
      have ht' := e2' _ _ ht
      have hyl := hys.len
      have hlen := List.length_filter_le (fun q : Bx => decide (q.2.2.1 - (q.2.1 - q.1) < greatV (rdOf r) r.o)) (r.bs.take i)
      rw [List.length_take] at hlen
      refine ⟨rfl, _, rfl, t, _, 2, .int b.2.2.1, rfl, rfl, SqT.of ht', rfl, _, rfl, t, _, 1, .int b.2.1, rfl, rfl, SqT.of ht', rfl, _, rfl, t, _, 0, .int b.1, rfl, rfl, SqT.of ht', rfl, _, _, rfl, rfl, _, _, rfl, rfl, _, rfl, _, _, rfl, rfl, _, rfl, ?_⟩
      by_cases hc : b.2.2.1 - (b.2.1 - b.1) < greatV (rdOf r) r.o
      · rw [decide_eq_true hc]
        refine iteT ⟨_, rfl, _, hCz, small_sz (by omega), ys ++ [.ref t], ext_mut e2' hD, upd_same, ?_⟩
        rw [L2.take_snoc hbi, List.filter_append, List.filter_cons, if_pos (decide_eq_true hc)]
        exact BxAt.snoc (mutTup hCz _ _ ht') (hys.to (mutTup hCz))
      · rw [decide_eq_false hc]
        refine iteF ⟨ys, e2', hCz, ?_⟩
        rw [L2.take_snoc hbi, List.filter_append, List.filter_cons, if_neg (by rw [decide_eq_true_eq]; exact hc), List.filter_nil, List.append_nil]
        exact hys
    obtain ⟨ys, e8, hDz, hys⟩ := pv
    rw [List.take_of_length_le (by rw [kxs.len]; exact Nat.le_refl _)] at hys
    refine ⟨by show 0 ≤ sizeLine; decide, fun l4 h4 => ?_⟩
    have e9 := Ext.upd (o := .lst []) h4
    have hys9 := hys.to (fun t zs ht => e9 _ _ ht)
    refine ⟨_, _, .lst (SqL.of (e9 _ _ hDz)) hys9.dp, .lst (SqL.of upd_same) .nil, ?_, rfl, ?_⟩
    · obtain ⟨h1, h2⟩ := lay_bxs (r.bs.filter fun q => decide (q.2.2.1 - (q.2.1 - q.1) < greatV (rdOf r) r.o))
      show (PyData.canLayAll0 _ && decide (PyData.depthAll _ + 1 ≤ 64)) = true
      rw [h1, decide_eq_true (by omega)]
      rfl
    refine ⟨rfl, ?_⟩
    have he : PyData.eqv (.list ((r.bs.filter fun q => decide (q.2.2.1 - (q.2.1 - q.1) < greatV (rdOf r) r.o)).map bxD)) (.list []) = keptV (rdOf r) r.o := by
      rw [← kept_is]
      show PyData.eqvAll (List.map bxD (r.bs.filter _)) [] = (r.bs.filter _).isEmpty
      cases r.bs.filter fun q => decide (q.2.2.1 - (q.2.1 - q.1) < greatV (rdOf r) r.o) <;> rfl
    rw [he, decide_eq_true rfl]
    exact q _ ((e07.trans e8).trans e9)
end
end K29

set_option Elab.async false
set_option maxRecDepth 100000
set_option maxHeartbeats 4000000
namespace K29
open PySem PySem.Spec PyProof.Rows L2 K31
theorem great_pl {r : PlD} (h : SmOk r) {L : Nat} (hL : r.lo = (L : Int)) {r0 : Int} {rest : List Int} (e : r.rs = r0 :: rest) : greatV (rdOf r) r.o = plV r.d r.tu r.qu (sgn r.qu r.pe) L r0 rest r.la r.o := by
  have hm := h.fw.md
  have hf := md_fit hm
  have d1 : 1 ≤ r.d := hf.m1
  have t1 : 2 * r.d ≤ r.tu := hf.t1
  have a1 : r.o ≤ r.la := hf.a1
  have hm0 := Int.mul_nonneg (show 0 ≤ (L : Int) by omega) (show 0 ≤ r.tu by omega)
  rw [plV_all (by omega) a1 (by omega)]
  unfold greatV raceV
  have e1 : rowV (rdOf r) = if (r0 :: rest).any (fun x => decide (x > 1)) = true then some (2 * r.d + (L : Int) * r.tu) else none := by
    rw [← e, ← hL]; rfl
  have e2 : restV (rdOf r) = if rest = [] then none else some (gapQ r.d r.tu r.qu (sgn r.qu r.pe) L) := by
    show (if r.rs.length = 1 then none else some (gapQ r.d r.tu r.qu (sgn r.qu r.pe) r.lo.toNat)) = _
    rw [e, hL, Int.toNat_natCast]
    cases rest with
    | nil => rfl
    | cons x xs =>
      rw [if_neg (List.cons_ne_nil _ _), if_neg]
      rw [List.length_cons, List.length_cons]
      omega
  rw [e1, e2]
  show max (r.la - r.o + r.lo * r.tu) _ = _
  rw [hL]
  congr 1
  congr 1
  · split <;> rfl
  · split <;> rfl
theorem extM_new {st : Addr} {H H1 H2 : Hp} (e : Ext H H1) (hn : H st = none) (x : ExtM st H1 H2) : Ext H H2 := fun a o ho => x a o (fun z => by rw [z, hn] at ho; cases ho) (e a o ho)
section
variable {P : Program} {w : World} {K : PySem.W.Frag} {mg : Str → Option Value} {base : Heap} {A : Ad}
def spLaw (K : PySem.W.Frag) : Sp := fun vs H Q _ => ∃ (c : Addr) (ns : List Int), vs = [.ref c] ∧ SqL K H c (ns.map V.int) ∧ ns.length ≤ 63 ∧ ∀ H', Q (.bl true) H'
theorem ok_law {f : Addr} {fd : FuncData} (F : Fun K "law" "law" s_law f fd) (T : Txt K mg A) (O__law_pool : Own P w K mg base CX0 "_law_pool" 1 pm__law_pool (spPool K)) (O__law_small : Own P w K mg base CX0 "_law_small" 3 pm__law_small spSmall) (O__law_told_right : Own P w K mg base CX0 "_law_told_right" 12 pm__law_told_right (spTR K A)) (O_greatest_gap : Own P w K mg base CX0 "greatest_gap" 10 pm_greatest_gap (spGreat K A))
    (O__law_made : Own P w K mg base CX0 "_law_made" 7 pm__law_made (spMade K A)) (O__law_played : Own P w K mg base CX0 "_law_played" 52 pm__law_played (spPl K 50)) (O__law_road : Own P w K mg base CX0 "_law_road" 2 pm__law_road spRoadDraw) : FnOk P w K mg base CX0 53 f fd pm_law (spLaw K) := by
  refine F.ok sc_law (fun vs H Q E h => ?_) (fun cdv A' outer sh H vs Q E hr h => ?_)
  · obtain ⟨_, _, rfl, _⟩ := h
    rfl
  · obtain ⟨c, ns, rfl, hsc, hl, q⟩ := h
    refine ⟨_, pss_cons (ps_for PassesOwn.never rfl (pi_range1 rfl T.n_range (pa_cons (pe_callB (call_max2 rfl) (by rfl) T.n_max (by decide +kernel) (pa_cons (pe_int) (pa_cons (pe_callB (call_min2 rfl) (by rfl) T.n_min (by decide +kernel) (pa_cons (pe_int) (pa_cons (pe_callB call_len_seq (by rfl) T.n_len (by decide +kernel) (pa_cons (pv 0) pa_nil)) pa_nil))) pa_nil))) pa_nil)) (pg_name (i := 1) sc_law.nd rfl (Or.inl rfl)) (pss_cons (ps_set (i := 2) sc_law.nd rfl (Or.inl rfl) (pe_own O__law_pool (hr.mono (by decide)) pass0 (pa_cons (pv 0) (pa_cons (pv 1) pa_nil))))
      (pss_cons (ps_set (i := 3) sc_law.nd rfl (Or.inl rfl) (pe_own O__law_small (hr.mono (by decide)) pass0 (pa_cons (pv 2) pa_nil)))
      (pss_cons (ps_if (pt_not (pt_val (pe_own O__law_told_right (hr.mono (by decide)) pass0 (pa_cons (pv 3) pa_nil)))) (pss_one (ps_ret (pe_bl))) (pss_nil))
      (pss_cons (ps_if (pt_cmpR op_ne (pe_own O_greatest_gap (hr.mono (by decide)) pass0 (pa_cons (pe_own O__law_made (hr.mono (by decide)) pass0 (pa_cons (pv 3) pa_nil)) pa_nil)) (pe_own O__law_played (hr.mono (by decide)) pass0 (pa_cons (pv 3) (pa_cons (pe_ix ix_list (pv 3) (pe_int) (fun _ _ => rfl)) (pa_cons (pe_int) (pa_cons (pe_ix ix_list (pe_ix ix_list (pv 3) (pe_int) (fun _ _ => rfl)) (pe_int) (fun _ _ => rfl)) (pa_cons (pe_ix ix_list (pv 3) (pe_int) (fun _ _ => rfl)) (pa_cons (pe_ix ix_list (pv 3) (pe_int) (fun _ _ => rfl)) pa_nil))))))) (nomark _)) (pss_one (ps_ret (pe_bl))) (pss_nil))
      (pss_one (ps_for PassesOwn.never rfl (pi_range1 rfl T.n_range (pa_cons (pe_int) pa_nil)) (pg_name (i := 4) sc_law.nd rfl (Or.inl rfl)) (pss_one (ps_if (pt_not (pt_val (pe_own O__law_told_right (hr.mono (by decide)) pass0 (pa_cons (pe_own O__law_road (hr.mono (by decide)) pass0 (pa_cons (pv 2) (pa_cons (pe_int) pa_nil))) pa_nil)))) (pss_one (ps_ret (pe_bl))) (pss_nil))))))))))
      (pss_one (ps_ret (pe_bl))), ?_⟩
    refine ⟨_, rfl, c, _, rfl, .inl hsc, _, _, rfl, _, _, rfl, _, rfl, ?_, ?_, ?_⟩
    · rw [List.length_map]
      split <;> split <;> omega
    · rw [List.length_map]
      split <;> split <;> omega
    have hN : (if (if (((ns.map V.int).length : Nat) : Int) < 6 then (((ns.map V.int).length : Nat) : Int) else 6) > 1 then (if (((ns.map V.int).length : Nat) : Int) < 6 then (((ns.map V.int).length : Nat) : Int) else 6) else 1).toNat ≤ 6 := by
      split <;> split <;> omega
    refine for_range (fun i σ' H' => ∃ (o1 o2 o3 o4 : Option V), σ' = [some (.ref c), o1, o2, o3, o4] ∧ Ext H H') ⟨_, _, _, _, rfl, Ext.rfl'⟩ (fun i σ' H' hi pv => ?_) (fun σ' H' pv => ?_)
    · obtain ⟨o1, o2, o3, o4, rfl, e0⟩ := pv
      rw [Int.zero_add]
      refine ⟨_, rfl, _, rfl, c, ns, i, rfl, hsc.ext e0, hl, by omega, fun st H1 e1 hstn hst => ?_⟩
      refine ⟨_, rfl, st, rfl, hst, fun p bx ro xs r H2 hD hS hst2 x2 => ?_⟩
      have e2 : Ext H H2 := e0.trans (extM_new e1 hstn x2)
      have hstH : H' st = none := hstn
      have hm := hS.fw.md
      have hf := md_fit hm
      obtain ⟨L, hL⟩ : ∃ L : Nat, r.lo = (L : Int) := ⟨r.lo.toNat, by have := hm.ok.l1; omega⟩
      obtain ⟨r0, rest, hrs⟩ : ∃ r0 rest, r.rs = r0 :: rest := by
        have := hm.ok.r1
        cases hc : r.rs with
        | nil => rw [hc] at this; cases this
        | cons a b => exact ⟨a, b, rfl⟩
      have hgp := great_pl hS hL hrs
      refine ⟨_, rfl, p, bx, ro, xs, r, rfl, hD, hm, fun H3 e3 => ⟨true, rfl, iteF ?_⟩⟩
      have hD3 := hD.ext e3
      refine ⟨_, rfl, p, bx, ro, xs, r, rfl, hD3, hm, fun rd H4 e4 hrn hR => ⟨rd, rdOf r, r.o, rfl, hR, hf, fun H5 e5 => ?_⟩⟩
      have hD5 := (hD3.ext e4).ext e5
      obtain ⟨kp, kbx, kxs, kro⟩ := id hD5
      rw [hrs] at kro
      refine ⟨_, rfl, _, rfl, p, _, 4, .int r.la, rfl, rfl, SqL.of kp, atI_nat (j := 4) rfl, _, rfl, p, _, 7, .ref ro, rfl, rfl, SqL.of kp, atI_nat (j := 7) rfl, ro, _, 0, .int r0, rfl, rfl, SqL.of kro, atI_nat (j := 0) rfl, _, rfl, p, _, 6, .int r.lo, rfl, rfl, SqL.of kp, atI_nat (j := 6) rfl, _, rfl, p, _, 0, .int r.o, rfl, rfl, SqL.of kp, atI_nat (j := 0) rfl, ?_⟩
      have hd : r.rs.drop (0 + 1) = rest := by rw [hrs]; rfl
      have hr0 := hS.two r0 (by rw [hrs]; exact List.mem_cons_self)
      have hr1 := hm.ok.rr r0 (by rw [hrs]; exact List.mem_cons_self)
      refine ⟨p, bx, ro, xs, r, 0, L, r0, r.la, r.o, by rw [hL]; rfl, hD5, hS.fw, by rw [hrs]; exact Nat.succ_pos _, by omega, hf.a1, ?_, fun H6 e6 => ?_⟩
      · rw [hd]
        have h1 := hS.len
        have h2 := hS.two
        have h3 := hS.lo
        rw [hrs] at h1 h2
        unfold pcs
        match rest, h1, h2 with
        | [], _, _ => show 10 * (r0.toNat + 0) + L ≤ 50; omega
        | [y], _, h2 =>
          have := h2 y (by simp)
          show 10 * (r0.toNat + (y.toNat + 0)) + L ≤ 50
          omega
        | _ :: _ :: _, h1, _ => simp at h1
      rw [hd, ← hgp]
      refine ⟨rfl, _, rfl, ?_⟩
      rw [decide_eq_true rfl]
      refine iteF ?_
      have e26 := ((e3.trans e4).trans e5).trans e6
      have hst6 := hst2.ext e26
      have e06 := e2.trans e26
      have hn0 : H' st = none := hstn
      have e6' : Ext H' H6 := (extM_new e1 hstn x2).trans e26
      clear hD hD3 hD5 kp kbx kxs kro hR hgp e3 e4 e5 e6 e26
      refine ⟨_, rfl, by decide, by decide, ?_⟩
      refine for_range (fun i' σ' J => ∃ (o4 : Option V), σ' = [some (.ref c), some (.int (i : Int)), some (.ref st), some (.ref p), o4] ∧ Ext H' J ∧ PoolD J st) ⟨_, rfl, e6', hst6⟩ (fun i' σ' J hi' pv => ?_) (fun σ' J pv => ?_)
      · obtain ⟨o4, rfl, eJ, hJ⟩ := pv
        refine ⟨_, rfl, st, rfl, hJ, fun p2 bx2 ro2 xs2 r2 J2 hD2 hO2 _ _ _ _ _ _ hJ2 xJ2 => ?_⟩
        refine ⟨p2, bx2, ro2, xs2, r2, rfl, hD2, hO2.md, fun J3 e3 => ⟨true, rfl, iteF ?_⟩⟩
        exact ⟨_, rfl, (extM_new eJ hn0 xJ2).trans e3, hJ2.ext e3⟩
      · obtain ⟨o4, rfl, eJ, hJ⟩ := pv
        exact ⟨_, _, _, _, rfl, e0.trans eJ⟩
    · obtain ⟨o1, o2, o3, o4, rfl, e0⟩ := pv
      exact q _
end
end K29

set_option Elab.async false
set_option maxRecDepth 100000
set_option maxHeartbeats 4000000
namespace K31
open PySem PySem.Spec PyProof.Rows L2 K29 K31
section
variable {P : Program} {w : World} {K : PySem.W.Frag} {mg : Str → Option Value} {base : Heap} {A : Ad}
theorem kit_ref {B C : Addr} {b : Bool} (i : PySem.W.isClsIn K C = true) (t : PySem.W.typeIn K (.ref C) = some (.type "type")) (s : PySem.W.subIn K (.ref B) (.ref C) = some b) (ss : PySem.W.subIn K (.ref B) (.ref B) = some true) : PySem.W.kitOne K (.ref B) (.ref C) = some b := by
  by_cases h : B = C
  · subst h
    rw [ss] at s
    cases s
    exact if_pos (beq_self_eq_true _)
  · have e : ((PySem.W.clsIn K C).isSome && PySem.W.typeIn K (.ref C) == some (.type "type")) = true := by
      have h1 : (PySem.W.clsIn K C).isSome = true := i
      rw [h1, t]
      rfl
    show (if (Value.ref B == Value.ref C) = true then some true else if ((PySem.W.clsIn K C).isSome && PySem.W.typeIn K (.ref C) == some (.type "type")) = true then PySem.W.subIn K (.ref B) (.ref C) else none) = some b
    rw [if_pos e]
    have hne : ¬ ((Value.ref B == Value.ref C) = true) := fun z => by
      have z' := eq_of_beq z
      injection z' with z'
      exact h z'
    rw [if_neg hne]
    exact s
theorem exm_ref {B C : Addr} {b : Bool} (x : PySem.W.subIn K (.ref C) (.type "BaseException") = some true) (i : PySem.W.isClsIn K C = true) (t : PySem.W.typeIn K (.ref C) = some (.type "type")) (s : PySem.W.subIn K (.ref B) (.ref C) = some b) : PySem.W.exmOne K (.ref B) (.ref C) = some b := by
  unfold PySem.W.exmOne PySem.W.kitCls
  have i' : (PySem.W.clsIn K C).isSome = true := i
  rw [x]
  dsimp only
  rw [i', t, s]
  rfl
theorem ve_one {W : Addr} : PySem.HandSPX.refsVE [.ref W, .type "ValueError", .type "Exception", .type "BaseException", .type "object"] = true := by
  show PySem.HandSPX.refsVE [.type "ValueError", .type "Exception", .type "BaseException", .type "object"] = true
  decide +kernel
theorem law_ok (T : Txt K mg A) (D_is_integer : DefAt K mg "is_integer" s_is_integer pm_is_integer) (D_is_between : DefAt K mg "is_between" s_is_between pm_is_between) (D_is_list : DefAt K mg "is_list" s_is_list pm_is_list) (D_is_list_of : DefAt K mg "is_list_of" s_is_list_of pm_is_list_of) (D_is_tuple_of : DefAt K mg "is_tuple_of" s_is_tuple_of pm_is_tuple_of) (D_is_begin : DefAt K mg "is_begin" s_is_begin pm_is_begin) (D_are_delays : DefAt K mg "are_delays" s_are_delays pm_are_delays) (D_is_box : DefAt K mg "is_box" s_is_box pm_is_box) (D_are_rows : DefAt K mg "are_rows" s_are_rows pm_are_rows) (D_spread_of : DefAt K mg "spread_of" s_spread_of pm_spread_of) (D_slack_of : DefAt K mg "slack_of" s_slack_of pm_slack_of) (D_check_lull : DefAt K mg "check_lull" s_check_lull pm_check_lull) (D_check_quiet : DefAt K mg "check_quiet" s_check_quiet pm_check_quiet) (D_lull_of : DefAt K mg "lull_of" s_lull_of pm_lull_of) (D_stops_of : DefAt K mg "stops_of" s_stops_of pm_stops_of) (D_widest : DefAt K mg "widest" s_widest pm_widest) (D_signs_each : DefAt K mg "signs_each" s_signs_each pm_signs_each) (D_race_gap : DefAt K mg "race_gap" s_race_gap pm_race_gap) (D_row_gap : DefAt K mg "row_gap" s_row_gap pm_row_gap) (D_rest_gap : DefAt K mg "rest_gap" s_rest_gap pm_rest_gap) (D_gaps_told : DefAt K mg "gaps_told" s_gaps_told pm_gaps_told) (D_greatest_gap : DefAt K mg "greatest_gap" s_greatest_gap pm_greatest_gap) (D_gap_kind : DefAt K mg "gap_kind" s_gap_kind pm_gap_kind) (D_is_kept : DefAt K mg "is_kept" s_is_kept pm_is_kept) (D__law_pool : DefAt K mg "_law_pool" s__law_pool pm__law_pool) (D__law_take : DefAt K mg "_law_take" s__law_take pm__law_take) (D__law_stops : DefAt K mg "_law_stops" s__law_stops pm__law_stops) (D__law_gap : DefAt K mg "_law_gap" s__law_gap pm__law_gap) (D__law_road : DefAt K mg "_law_road" s__law_road pm__law_road) (D__law_made : DefAt K mg "_law_made" s__law_made pm__law_made) (D__law_gaps : DefAt K mg "_law_gaps" s__law_gaps pm__law_gaps) (D__law_next : DefAt K mg "_law_next" s__law_next pm__law_next) (D__law_played : DefAt K mg "_law_played" s__law_played pm__law_played) (D__law_signs : DefAt K mg "_law_signs" s__law_signs pm__law_signs) (D__law_small : DefAt K mg "_law_small" s__law_small pm__law_small) (D__law_told_right : DefAt K mg "_law_told_right" s__law_told_right pm__law_told_right)
    (M_Way_window : MethAt K A.Way "window" "Way.window" s_Way_window pm_Way_window) (M_Way_eq : MethAt K A.Way "__eq__" "Way.__eq__" s_Way_eq pm_Way_eq) (M_Road_init : MethAt K A.Road "__init__" "Road.__init__" s_Road_init pm_Road_init) (M_Road_eq : MethAt K A.Road "__eq__" "Road.__eq__" s_Road_eq pm_Road_eq) (M_Lull_init : MethAt K A.Lull "__init__" "Lull.__init__" s_Lull_init pm_Lull_init) (M_Lull_eq : MethAt K A.Lull "__eq__" "Lull.__eq__" s_Lull_eq pm_Lull_eq) (m1_Road : PySem.W.makesIn K A.Road = true) (m2_Road : PySem.W.keepIn K (.ref A.Road) = true) (m1_Lull : PySem.W.makesIn K A.Lull = true) (m2_Lull : PySem.W.keepIn K (.ref A.Lull) = true)
    {fi : Addr} {fdi : FuncData} (FI : FunD K "__init__" "Way.__init__" (defArgs s_Way_init) (defBody s_Way_init) (defScope s_Way_init) [.ref A.T0] [] fi fdi) (MI : Mk K A.Way fi) (B4 : Binds K fdi pm_Way_init []) {d3 : List Value} (V3 : Vals [.ref A.T0] d3) (B3 : Binds K fdi pm_Way_init d3)
    {f : Addr} {fd : FuncData} (F : Fun K "law" "law" s_law f fd) : FnOk P w K mg base CX0 53 f fd pm_law (spLaw K) := by
  have X_BadPart : XCls P w K mg base "BadPart" "part" A.BadPart := T.BadPart.cls fun _ _ F => ok_xp F T
  have X_BadBox : XCls P w K mg base "BadBox" "index" A.BadBox := T.BadBox.cls fun _ _ F => ok_xb F T

  have O_is_integer : Own P w K mg base CX0 "is_integer" 1 pm_is_integer (spInteger K) := D_is_integer.own fun f fd F => ok_integer F T
  have O_is_between : Own P w K mg base CX0 "is_between" 2 pm_is_between (spBetween K) := D_is_between.own fun f fd F => ok_between F O_is_integer
  have O_is_list : Own P w K mg base CX0 "is_list" 1 pm_is_list (spIsList K) := D_is_list.own fun f fd F => ok_isList F T
  have O_is_list_of : Own P w K mg base CX0 "is_list_of" 2 pm_is_list_of (spListOf K) := D_is_list_of.own fun f fd F => ok_listOf F T O_is_list
  have O_is_tuple_of : Own P w K mg base CX0 "is_tuple_of" 1 pm_is_tuple_of (spTupleOf K) := D_is_tuple_of.own fun f fd F => ok_tupleOf F T
  have O_is_begin : Own P w K mg base CX0 "is_begin" 3 pm_is_begin (spBegin K) := D_is_begin.own fun f fd F => ok_begin F T O_is_between
  have O_are_delays : Own P w K mg base CX0 "are_delays" 3 pm_are_delays (spDelays K) := D_are_delays.own fun f fd F => ok_delays F T O_is_between
  have O_is_box : Own P w K mg base CX0 "is_box" 3 pm_is_box (spBoxOk K) := D_is_box.own fun f fd F => ok_box F T O_is_between O_is_tuple_of
  have GI_Way : FnOk P w K mg base (L2.CX P w) 5 fi fdi pm_Way_init (spWayInit K A) := ok_wayInit FI T O_is_begin O_are_delays O_is_list_of O_is_box X_BadPart X_BadBox
  have O_Way : OwnC P w K mg base (L2.CX P w) "Way" A.Way 5 pm_Way_init (spWayInit K A) := ⟨fi, fdi, GI_Way, MI, T.Way.gC, B4⟩
  have O_Way3 : OwnCD P w K mg base (L2.CX P w) "Way" A.Way 5 pm_Way_init (spWayInit K A) [.ref A.T0] := ⟨fi, fdi, d3, GI_Way, MI, T.Way.gC, B3, V3⟩
  have O_Way_window : OwnM P w K mg base CX0 A.Way "window" 1 pm_Way_window (spWindow K A) := M_Way_window.own fun f fd F => ok_window F T
  have O_Way_eq : OwnM P w K mg base CX0 A.Way "__eq__" 1 pm_Way_eq (spWayEq K A) := M_Way_eq.own fun f fd F => ok_wayEq F T
  have O_check_lull : Own P w K mg base (L2.CX P w) "check_lull" 4 pm_check_lull (spCheckLull K A) := D_check_lull.own fun f fd F => ok_checkLull F T O_is_between X_BadPart
  have O_check_quiet : Own P w K mg base (L2.CX P w) "check_quiet" 4 pm_check_quiet (spCheckQuiet K A) := D_check_quiet.own fun f fd F => ok_checkQuiet F T O_is_between X_BadPart
  have O_Lull : OwnC P w K mg base (L2.CX P w) "Lull" A.Lull 5 pm_Lull_init (spLullInit K A) := M_Lull_init.cls (fun f fd F => ok_lullInit F T O_is_between O_check_lull O_check_quiet X_BadPart) m1_Lull m2_Lull T.Lull.gC
  have O_Lull_eq : OwnM P w K mg base CX0 A.Lull "__eq__" 1 pm_Lull_eq (spLullEq K A) := M_Lull_eq.own fun f fd F => ok_lullEq F T
  have O_are_rows : Own P w K mg base CX0 "are_rows" 3 pm_are_rows (spRows K) := D_are_rows.own fun f fd F => ok_rows F T O_is_list_of O_is_between
  have O_Road : OwnC P w K mg base (L2.CX P w) "Road" A.Road 5 pm_Road_init (spRoadInit K A) := M_Road_init.cls (fun f fd F => ok_roadInit F T O_is_between O_Way_window O_check_lull O_check_quiet O_are_rows X_BadPart) m1_Road m2_Road T.Road.gC
  have O_Road_eq : OwnM P w K mg base CX0 A.Road "__eq__" 3 pm_Road_eq (spRoadEq K A) := M_Road_eq.own fun f fd F => ok_roadEq F T O_Way_eq
  have O_spread_of : Own P w K mg base CX0 "spread_of" 1 pm_spread_of spBox := D_spread_of.own fun f fd F => ok_spread F
  have O_slack_of : Own P w K mg base CX0 "slack_of" 2 pm_slack_of spSlack := D_slack_of.own fun f fd F => ok_slack F O_spread_of
  have O_lull_of : Own P w K mg base CX0 "lull_of" 7 pm_lull_of (spLullOf K A) := D_lull_of.own fun f fd F => ok_lullOf F T O_Lull
  have O__law_pool : Own P w K mg base CX0 "_law_pool" 1 pm__law_pool (spPool K) := D__law_pool.own fun f fd F => ok_pool F T
  have O__law_take : Own P w K mg base CX0 "_law_take" 1 pm__law_take spTake := D__law_take.own fun f fd F => ok_take F T
  have O__law_road : Own P w K mg base CX0 "_law_road" 2 pm__law_road spRoadDraw := D__law_road.own fun f fd F => ok_road F T O__law_take
  have O__law_made : Own P w K mg base CX0 "_law_made" 7 pm__law_made (spMade K A) := D__law_made.own fun f fd F => ok_made F O_Way O_Road
  have O_stops_of : Own P w K mg base CX0 "stops_of" 1 pm_stops_of (spStopsOf K A) := D_stops_of.own fun f fd F => ok_stopsOf F T
  have O_widest : Own P w K mg base CX0 "widest" 1 pm_widest (spWidest A) := D_widest.own fun f fd F => ok_widest F T
  have O_signs_each : Own P w K mg base CX0 "signs_each" 1 pm_signs_each (spEach A) := D_signs_each.own fun f fd F => ok_each F T
  have O_race_gap : Own P w K mg base CX0 "race_gap" 1 pm_race_gap (spRace K A) := D_race_gap.own fun f fd F => ok_race F T
  have O_row_gap : Own P w K mg base CX0 "row_gap" 1 pm_row_gap (spRowG K A) := D_row_gap.own fun f fd F => ok_rowG F T
  have O_rest_gap : Own P w K mg base CX0 "rest_gap" 8 pm_rest_gap (spRest K A) := D_rest_gap.own fun f fd F => ok_rest F T O_lull_of O_stops_of O_widest O_signs_each
  have O_gaps_told : Own P w K mg base CX0 "gaps_told" 9 pm_gaps_told (spTold K A) := D_gaps_told.own fun f fd F => ok_told F T O_race_gap O_row_gap O_rest_gap
  have O_greatest_gap : Own P w K mg base CX0 "greatest_gap" 10 pm_greatest_gap (spGreat K A) := D_greatest_gap.own fun f fd F => ok_great F T O_gaps_told
  have O_gap_kind : Own P w K mg base CX0 "gap_kind" 11 pm_gap_kind (spKind K A) := D_gap_kind.own fun f fd F => ok_kind F T O_gaps_told O_greatest_gap
  have O_spread_of_1 : Own P w K mg base CX0 "spread_of" 1 pm_spread_of (spBoxT K) := D_spread_of.own fun f fd F => ok_spreadT F
  have O_slack_of_1 : Own P w K mg base CX0 "slack_of" 2 pm_slack_of (spSlackT K) := D_slack_of.own fun f fd F => ok_slackT F O_spread_of_1
  have O_is_kept : Own P w K mg base CX0 "is_kept" 11 pm_is_kept (spKept K A) := D_is_kept.own fun f fd F => ok_kept F T O_slack_of_1 O_greatest_gap
  have O__law_stops : Own P w K mg base CX0 "_law_stops" 1 pm__law_stops (spLStops K) := D__law_stops.own fun f fd F => ok_lstops F T
  have O__law_gap : Own P w K mg base CX0 "_law_gap" 2 pm__law_gap (spLGap K) := D__law_gap.own fun f fd F => ok_lgap F T O__law_stops
  have O__law_gaps : Own P w K mg base CX0 "_law_gaps" 3 pm__law_gaps (spLGaps K) := D__law_gaps.own fun f fd F => ok_lgaps F T O__law_gap
  have O__law_next : Own P w K mg base CX0 "_law_next" 1 pm__law_next (spNext K) := D__law_next.own fun f fd F => ok_next F T
  have O__law_played : Own P w K mg base CX0 "_law_played" 52 pm__law_played (spPl K 50) := D__law_played.own fun f fd F => ok_playedA F T D__law_played D__law_signs O__law_next
  have O__law_small : Own P w K mg base CX0 "_law_small" 3 pm__law_small spSmall := D__law_small.own fun f fd F => ok_small F T O__law_take O__law_road
  have O__law_told_right : Own P w K mg base CX0 "_law_told_right" 12 pm__law_told_right (spTR K A) := D__law_told_right.own fun f fd F => ok_tr F T O__law_made O__law_gaps O_race_gap O_row_gap O_rest_gap O_greatest_gap O_gap_kind O_is_kept
  exact ok_law F T O__law_pool O__law_small O__law_told_right O_greatest_gap O__law_made O__law_played O__law_road
end
theorem all_mk {P : Program} {w : World} {K : PySem.W.Frag} {h : Heap} {mg : Str → Option Value} {fa  Td AT0 ABadPart ABadBox AWholeError AWay ARoad ALull f_is_integer f_is_between f_is_list f_is_list_of f_is_tuple_of f_is_begin f_are_delays f_is_box f_are_rows f_spread_of f_slack_of f_check_lull f_check_quiet f_lull_of f_stops_of f_widest f_signs_each f_race_gap f_row_gap f_rest_gap f_gaps_told f_greatest_gap f_gap_kind f_is_kept f__law_pool f__law_take f__law_stops f__law_gap f__law_road f__law_made f__law_gaps f__law_next f__law_played f__law_signs f__law_small f__law_told_right f_law f_BadPart_init f_BadBox_init f_Way_init f_Way_window f_Way_eq f_Road_init f_Road_eq f_Lull_init f_Lull_eq : Addr} (X : K.In h) (G : h.Ns mainGlobals mg) (hfa : mg "law" = some (.ref fa))
    {od_is_integer an_is_integer od_is_between an_is_between od_is_list an_is_list od_is_list_of an_is_list_of od_is_tuple_of an_is_tuple_of od_is_begin an_is_begin od_are_delays an_are_delays od_is_box an_is_box od_are_rows an_are_rows od_spread_of an_spread_of od_slack_of an_slack_of od_check_lull an_check_lull od_check_quiet an_check_quiet od_lull_of an_lull_of od_stops_of an_stops_of od_widest an_widest od_signs_each an_signs_each od_race_gap an_race_gap od_row_gap an_row_gap od_rest_gap an_rest_gap od_gaps_told an_gaps_told od_greatest_gap an_greatest_gap od_gap_kind an_gap_kind od_is_kept an_is_kept od__law_pool an__law_pool od__law_take an__law_take od__law_stops an__law_stops od__law_gap an__law_gap od__law_road an__law_road od__law_made an__law_made od__law_gaps an__law_gaps od__law_next an__law_next od__law_played an__law_played od__law_signs an__law_signs od__law_small an__law_small od__law_told_right an__law_told_right od_law an_law od_BadPart_init an_BadPart_init od_BadBox_init an_BadBox_init od_Way_init an_Way_init od_Way_window an_Way_window od_Way_eq an_Way_eq od_Road_init an_Road_init od_Road_eq an_Road_eq od_Lull_init an_Lull_init od_Lull_eq an_Lull_eq ddt edt : Option Addr} {sl_is_integer sl_is_between sl_is_list sl_is_list_of sl_is_tuple_of sl_is_begin sl_are_delays sl_is_box sl_are_rows sl_spread_of sl_slack_of sl_check_lull sl_check_quiet sl_lull_of sl_stops_of sl_widest sl_signs_each sl_race_gap sl_row_gap sl_rest_gap sl_gaps_told sl_greatest_gap sl_gap_kind sl_is_kept sl__law_pool sl__law_take sl__law_stops sl__law_gap sl__law_road sl__law_made sl__law_gaps sl__law_next sl__law_played sl__law_signs sl__law_small sl__law_told_right sl_law sl_BadPart_init sl_BadBox_init sl_Way_init sl_Way_window sl_Way_eq sl_Road_init sl_Road_eq sl_Lull_init sl_Lull_eq dsl esl : Array (Option Value)} {oc_is_integer kV_is_integer dc_is_integer pm_is_integer_ cd_is_integer ct_is_integer oc_is_between kV_is_between dc_is_between pm_is_between_ cd_is_between ct_is_between oc_is_list kV_is_list dc_is_list pm_is_list_ cd_is_list ct_is_list oc_is_list_of kV_is_list_of dc_is_list_of pm_is_list_of_ cd_is_list_of ct_is_list_of oc_is_tuple_of kV_is_tuple_of dc_is_tuple_of pm_is_tuple_of_ cd_is_tuple_of ct_is_tuple_of oc_is_begin kV_is_begin dc_is_begin pm_is_begin_ cd_is_begin ct_is_begin oc_are_delays kV_are_delays dc_are_delays pm_are_delays_ cd_are_delays ct_are_delays oc_is_box kV_is_box dc_is_box pm_is_box_ cd_is_box ct_is_box oc_are_rows kV_are_rows dc_are_rows pm_are_rows_ cd_are_rows ct_are_rows oc_spread_of kV_spread_of dc_spread_of pm_spread_of_ cd_spread_of ct_spread_of oc_slack_of kV_slack_of dc_slack_of pm_slack_of_ cd_slack_of ct_slack_of oc_check_lull kV_check_lull dc_check_lull pm_check_lull_ cd_check_lull ct_check_lull oc_check_quiet kV_check_quiet dc_check_quiet pm_check_quiet_ cd_check_quiet ct_check_quiet oc_lull_of kV_lull_of dc_lull_of pm_lull_of_ cd_lull_of ct_lull_of oc_stops_of kV_stops_of dc_stops_of pm_stops_of_ cd_stops_of ct_stops_of oc_widest kV_widest dc_widest pm_widest_ cd_widest ct_widest oc_signs_each kV_signs_each dc_signs_each pm_signs_each_ cd_signs_each ct_signs_each oc_race_gap kV_race_gap dc_race_gap pm_race_gap_ cd_race_gap ct_race_gap oc_row_gap kV_row_gap dc_row_gap pm_row_gap_ cd_row_gap ct_row_gap oc_rest_gap kV_rest_gap dc_rest_gap pm_rest_gap_ cd_rest_gap ct_rest_gap oc_gaps_told kV_gaps_told dc_gaps_told pm_gaps_told_ cd_gaps_told ct_gaps_told oc_greatest_gap kV_greatest_gap dc_greatest_gap pm_greatest_gap_ cd_greatest_gap ct_greatest_gap oc_gap_kind kV_gap_kind dc_gap_kind pm_gap_kind_ cd_gap_kind ct_gap_kind oc_is_kept kV_is_kept dc_is_kept pm_is_kept_ cd_is_kept ct_is_kept oc__law_pool kV__law_pool dc__law_pool pm__law_pool_ cd__law_pool ct__law_pool oc__law_take kV__law_take dc__law_take pm__law_take_ cd__law_take ct__law_take oc__law_stops kV__law_stops dc__law_stops pm__law_stops_ cd__law_stops ct__law_stops oc__law_gap kV__law_gap dc__law_gap pm__law_gap_ cd__law_gap ct__law_gap oc__law_road kV__law_road dc__law_road pm__law_road_ cd__law_road ct__law_road oc__law_made kV__law_made dc__law_made pm__law_made_ cd__law_made ct__law_made oc__law_gaps kV__law_gaps dc__law_gaps pm__law_gaps_ cd__law_gaps ct__law_gaps oc__law_next kV__law_next dc__law_next pm__law_next_ cd__law_next ct__law_next oc__law_played kV__law_played dc__law_played pm__law_played_ cd__law_played ct__law_played oc__law_signs kV__law_signs dc__law_signs pm__law_signs_ cd__law_signs ct__law_signs oc__law_small kV__law_small dc__law_small pm__law_small_ cd__law_small ct__law_small oc__law_told_right kV__law_told_right dc__law_told_right pm__law_told_right_ cd__law_told_right ct__law_told_right oc_law kV_law dc_law pm_law_ cd_law ct_law oc_BadPart_init kV_BadPart_init dc_BadPart_init pm_BadPart_init_ cd_BadPart_init ct_BadPart_init oc_BadBox_init kV_BadBox_init dc_BadBox_init pm_BadBox_init_ cd_BadBox_init ct_BadBox_init oc_Way_init kV_Way_init dc_Way_init pm_Way_init_ cd_Way_init ct_Way_init oc_Way_window kV_Way_window dc_Way_window pm_Way_window_ cd_Way_window ct_Way_window oc_Way_eq kV_Way_eq dc_Way_eq pm_Way_eq_ cd_Way_eq ct_Way_eq oc_Road_init kV_Road_init dc_Road_init pm_Road_init_ cd_Road_init ct_Road_init oc_Road_eq kV_Road_eq dc_Road_eq pm_Road_eq_ cd_Road_eq ct_Road_eq oc_Lull_init kV_Lull_init dc_Lull_init pm_Lull_init_ cd_Lull_init ct_Lull_init oc_Lull_eq kV_Lull_eq dc_Lull_eq pm_Lull_eq_ cd_Lull_eq ct_Lull_eq dcl : Value} {t_MOST_BEGIN t_MOST_DELAY t_MOST_BOXES t_MOST_KEEP t_MOST_TURN t_MOST_ROWS t_MOST_PARCELS t_MOST_QUIET t_MOST_LOST t_MOST_PERIOD : Tok} {dn en : Nat}
    {xBadPart_nm xBadPart_q : Str} {xBadPart_N : Addr} {xBadPart_bs : List Value} {xBadPart_sn : List Str} {xBadPart_sub : List Value} {xBadPart_ab : Bool} {xBadPart_col : Option Bool} {xBadPart_dd : Option Addr} {xBadPart_m0 xBadPart_m1 xBadPart_m2 xBadPart_m3 xBadPart_m5 : Option Value}
    {xBadBox_nm xBadBox_q : Str} {xBadBox_N : Addr} {xBadBox_bs : List Value} {xBadBox_sn : List Str} {xBadBox_sub : List Value} {xBadBox_ab : Bool} {xBadBox_col : Option Bool} {xBadBox_dd : Option Addr} {xBadBox_m0 xBadBox_m1 xBadBox_m2 xBadBox_m3 xBadBox_m5 : Option Value}
    (g_BadPart : PySem.W.nsIn K mainGlobals "BadPart" = some (some (.ref ABadPart)))
    (g_BadBox : PySem.W.nsIn K mainGlobals "BadBox" = some (some (.ref ABadBox)))
    (g_WholeError : PySem.W.nsIn K mainGlobals "WholeError" = some (some (.ref AWholeError)))
    (g_Way : PySem.W.nsIn K mainGlobals "Way" = some (some (.ref AWay)))
    (g_Road : PySem.W.nsIn K mainGlobals "Road" = some (some (.ref ARoad)))
    (g_Lull : PySem.W.nsIn K mainGlobals "Lull" = some (some (.ref ALull)))
    (a_is_integer : PySem.W.nsIn K mainGlobals "is_integer" = some (some (.ref f_is_integer)))
    (l_is_integer : K.lookup f_is_integer = some ⟨oc_is_integer, od_is_integer, .func (PySem.W.fnOf "is_integer" "is_integer" (defArgs s_is_integer) (defBody s_is_integer) (defScope s_is_integer) .none kV_is_integer dc_is_integer pm_is_integer_ an_is_integer cd_is_integer ct_is_integer), sl_is_integer⟩)
    (c_is_integer : PySem.W.codeIn K cd_is_integer "is_integer" = true)
    (k_is_integer : PySem.W.keepIn K (.ref f_is_integer) = true)
    (a_is_between : PySem.W.nsIn K mainGlobals "is_between" = some (some (.ref f_is_between)))
    (l_is_between : K.lookup f_is_between = some ⟨oc_is_between, od_is_between, .func (PySem.W.fnOf "is_between" "is_between" (defArgs s_is_between) (defBody s_is_between) (defScope s_is_between) .none kV_is_between dc_is_between pm_is_between_ an_is_between cd_is_between ct_is_between), sl_is_between⟩)
    (c_is_between : PySem.W.codeIn K cd_is_between "is_between" = true)
    (k_is_between : PySem.W.keepIn K (.ref f_is_between) = true)
    (a_is_list : PySem.W.nsIn K mainGlobals "is_list" = some (some (.ref f_is_list)))
    (l_is_list : K.lookup f_is_list = some ⟨oc_is_list, od_is_list, .func (PySem.W.fnOf "is_list" "is_list" (defArgs s_is_list) (defBody s_is_list) (defScope s_is_list) .none kV_is_list dc_is_list pm_is_list_ an_is_list cd_is_list ct_is_list), sl_is_list⟩)
    (c_is_list : PySem.W.codeIn K cd_is_list "is_list" = true)
    (k_is_list : PySem.W.keepIn K (.ref f_is_list) = true)
    (a_is_list_of : PySem.W.nsIn K mainGlobals "is_list_of" = some (some (.ref f_is_list_of)))
    (l_is_list_of : K.lookup f_is_list_of = some ⟨oc_is_list_of, od_is_list_of, .func (PySem.W.fnOf "is_list_of" "is_list_of" (defArgs s_is_list_of) (defBody s_is_list_of) (defScope s_is_list_of) .none kV_is_list_of dc_is_list_of pm_is_list_of_ an_is_list_of cd_is_list_of ct_is_list_of), sl_is_list_of⟩)
    (c_is_list_of : PySem.W.codeIn K cd_is_list_of "is_list_of" = true)
    (k_is_list_of : PySem.W.keepIn K (.ref f_is_list_of) = true)
    (a_is_tuple_of : PySem.W.nsIn K mainGlobals "is_tuple_of" = some (some (.ref f_is_tuple_of)))
    (l_is_tuple_of : K.lookup f_is_tuple_of = some ⟨oc_is_tuple_of, od_is_tuple_of, .func (PySem.W.fnOf "is_tuple_of" "is_tuple_of" (defArgs s_is_tuple_of) (defBody s_is_tuple_of) (defScope s_is_tuple_of) .none kV_is_tuple_of dc_is_tuple_of pm_is_tuple_of_ an_is_tuple_of cd_is_tuple_of ct_is_tuple_of), sl_is_tuple_of⟩)
    (c_is_tuple_of : PySem.W.codeIn K cd_is_tuple_of "is_tuple_of" = true)
    (k_is_tuple_of : PySem.W.keepIn K (.ref f_is_tuple_of) = true)
    (a_is_begin : PySem.W.nsIn K mainGlobals "is_begin" = some (some (.ref f_is_begin)))
    (l_is_begin : K.lookup f_is_begin = some ⟨oc_is_begin, od_is_begin, .func (PySem.W.fnOf "is_begin" "is_begin" (defArgs s_is_begin) (defBody s_is_begin) (defScope s_is_begin) .none kV_is_begin dc_is_begin pm_is_begin_ an_is_begin cd_is_begin ct_is_begin), sl_is_begin⟩)
    (c_is_begin : PySem.W.codeIn K cd_is_begin "is_begin" = true)
    (k_is_begin : PySem.W.keepIn K (.ref f_is_begin) = true)
    (a_are_delays : PySem.W.nsIn K mainGlobals "are_delays" = some (some (.ref f_are_delays)))
    (l_are_delays : K.lookup f_are_delays = some ⟨oc_are_delays, od_are_delays, .func (PySem.W.fnOf "are_delays" "are_delays" (defArgs s_are_delays) (defBody s_are_delays) (defScope s_are_delays) .none kV_are_delays dc_are_delays pm_are_delays_ an_are_delays cd_are_delays ct_are_delays), sl_are_delays⟩)
    (c_are_delays : PySem.W.codeIn K cd_are_delays "are_delays" = true)
    (k_are_delays : PySem.W.keepIn K (.ref f_are_delays) = true)
    (a_is_box : PySem.W.nsIn K mainGlobals "is_box" = some (some (.ref f_is_box)))
    (l_is_box : K.lookup f_is_box = some ⟨oc_is_box, od_is_box, .func (PySem.W.fnOf "is_box" "is_box" (defArgs s_is_box) (defBody s_is_box) (defScope s_is_box) .none kV_is_box dc_is_box pm_is_box_ an_is_box cd_is_box ct_is_box), sl_is_box⟩)
    (c_is_box : PySem.W.codeIn K cd_is_box "is_box" = true)
    (k_is_box : PySem.W.keepIn K (.ref f_is_box) = true)
    (a_are_rows : PySem.W.nsIn K mainGlobals "are_rows" = some (some (.ref f_are_rows)))
    (l_are_rows : K.lookup f_are_rows = some ⟨oc_are_rows, od_are_rows, .func (PySem.W.fnOf "are_rows" "are_rows" (defArgs s_are_rows) (defBody s_are_rows) (defScope s_are_rows) .none kV_are_rows dc_are_rows pm_are_rows_ an_are_rows cd_are_rows ct_are_rows), sl_are_rows⟩)
    (c_are_rows : PySem.W.codeIn K cd_are_rows "are_rows" = true)
    (k_are_rows : PySem.W.keepIn K (.ref f_are_rows) = true)
    (a_spread_of : PySem.W.nsIn K mainGlobals "spread_of" = some (some (.ref f_spread_of)))
    (l_spread_of : K.lookup f_spread_of = some ⟨oc_spread_of, od_spread_of, .func (PySem.W.fnOf "spread_of" "spread_of" (defArgs s_spread_of) (defBody s_spread_of) (defScope s_spread_of) .none kV_spread_of dc_spread_of pm_spread_of_ an_spread_of cd_spread_of ct_spread_of), sl_spread_of⟩)
    (c_spread_of : PySem.W.codeIn K cd_spread_of "spread_of" = true)
    (k_spread_of : PySem.W.keepIn K (.ref f_spread_of) = true)
    (a_slack_of : PySem.W.nsIn K mainGlobals "slack_of" = some (some (.ref f_slack_of)))
    (l_slack_of : K.lookup f_slack_of = some ⟨oc_slack_of, od_slack_of, .func (PySem.W.fnOf "slack_of" "slack_of" (defArgs s_slack_of) (defBody s_slack_of) (defScope s_slack_of) .none kV_slack_of dc_slack_of pm_slack_of_ an_slack_of cd_slack_of ct_slack_of), sl_slack_of⟩)
    (c_slack_of : PySem.W.codeIn K cd_slack_of "slack_of" = true)
    (k_slack_of : PySem.W.keepIn K (.ref f_slack_of) = true)
    (a_check_lull : PySem.W.nsIn K mainGlobals "check_lull" = some (some (.ref f_check_lull)))
    (l_check_lull : K.lookup f_check_lull = some ⟨oc_check_lull, od_check_lull, .func (PySem.W.fnOf "check_lull" "check_lull" (defArgs s_check_lull) (defBody s_check_lull) (defScope s_check_lull) .none kV_check_lull dc_check_lull pm_check_lull_ an_check_lull cd_check_lull ct_check_lull), sl_check_lull⟩)
    (c_check_lull : PySem.W.codeIn K cd_check_lull "check_lull" = true)
    (k_check_lull : PySem.W.keepIn K (.ref f_check_lull) = true)
    (a_check_quiet : PySem.W.nsIn K mainGlobals "check_quiet" = some (some (.ref f_check_quiet)))
    (l_check_quiet : K.lookup f_check_quiet = some ⟨oc_check_quiet, od_check_quiet, .func (PySem.W.fnOf "check_quiet" "check_quiet" (defArgs s_check_quiet) (defBody s_check_quiet) (defScope s_check_quiet) .none kV_check_quiet dc_check_quiet pm_check_quiet_ an_check_quiet cd_check_quiet ct_check_quiet), sl_check_quiet⟩)
    (c_check_quiet : PySem.W.codeIn K cd_check_quiet "check_quiet" = true)
    (k_check_quiet : PySem.W.keepIn K (.ref f_check_quiet) = true)
    (a_lull_of : PySem.W.nsIn K mainGlobals "lull_of" = some (some (.ref f_lull_of)))
    (l_lull_of : K.lookup f_lull_of = some ⟨oc_lull_of, od_lull_of, .func (PySem.W.fnOf "lull_of" "lull_of" (defArgs s_lull_of) (defBody s_lull_of) (defScope s_lull_of) .none kV_lull_of dc_lull_of pm_lull_of_ an_lull_of cd_lull_of ct_lull_of), sl_lull_of⟩)
    (c_lull_of : PySem.W.codeIn K cd_lull_of "lull_of" = true)
    (k_lull_of : PySem.W.keepIn K (.ref f_lull_of) = true)
    (a_stops_of : PySem.W.nsIn K mainGlobals "stops_of" = some (some (.ref f_stops_of)))
    (l_stops_of : K.lookup f_stops_of = some ⟨oc_stops_of, od_stops_of, .func (PySem.W.fnOf "stops_of" "stops_of" (defArgs s_stops_of) (defBody s_stops_of) (defScope s_stops_of) .none kV_stops_of dc_stops_of pm_stops_of_ an_stops_of cd_stops_of ct_stops_of), sl_stops_of⟩)
    (c_stops_of : PySem.W.codeIn K cd_stops_of "stops_of" = true)
    (k_stops_of : PySem.W.keepIn K (.ref f_stops_of) = true)
    (a_widest : PySem.W.nsIn K mainGlobals "widest" = some (some (.ref f_widest)))
    (l_widest : K.lookup f_widest = some ⟨oc_widest, od_widest, .func (PySem.W.fnOf "widest" "widest" (defArgs s_widest) (defBody s_widest) (defScope s_widest) .none kV_widest dc_widest pm_widest_ an_widest cd_widest ct_widest), sl_widest⟩)
    (c_widest : PySem.W.codeIn K cd_widest "widest" = true)
    (k_widest : PySem.W.keepIn K (.ref f_widest) = true)
    (a_signs_each : PySem.W.nsIn K mainGlobals "signs_each" = some (some (.ref f_signs_each)))
    (l_signs_each : K.lookup f_signs_each = some ⟨oc_signs_each, od_signs_each, .func (PySem.W.fnOf "signs_each" "signs_each" (defArgs s_signs_each) (defBody s_signs_each) (defScope s_signs_each) .none kV_signs_each dc_signs_each pm_signs_each_ an_signs_each cd_signs_each ct_signs_each), sl_signs_each⟩)
    (c_signs_each : PySem.W.codeIn K cd_signs_each "signs_each" = true)
    (k_signs_each : PySem.W.keepIn K (.ref f_signs_each) = true)
    (a_race_gap : PySem.W.nsIn K mainGlobals "race_gap" = some (some (.ref f_race_gap)))
    (l_race_gap : K.lookup f_race_gap = some ⟨oc_race_gap, od_race_gap, .func (PySem.W.fnOf "race_gap" "race_gap" (defArgs s_race_gap) (defBody s_race_gap) (defScope s_race_gap) .none kV_race_gap dc_race_gap pm_race_gap_ an_race_gap cd_race_gap ct_race_gap), sl_race_gap⟩)
    (c_race_gap : PySem.W.codeIn K cd_race_gap "race_gap" = true)
    (k_race_gap : PySem.W.keepIn K (.ref f_race_gap) = true)
    (a_row_gap : PySem.W.nsIn K mainGlobals "row_gap" = some (some (.ref f_row_gap)))
    (l_row_gap : K.lookup f_row_gap = some ⟨oc_row_gap, od_row_gap, .func (PySem.W.fnOf "row_gap" "row_gap" (defArgs s_row_gap) (defBody s_row_gap) (defScope s_row_gap) .none kV_row_gap dc_row_gap pm_row_gap_ an_row_gap cd_row_gap ct_row_gap), sl_row_gap⟩)
    (c_row_gap : PySem.W.codeIn K cd_row_gap "row_gap" = true)
    (k_row_gap : PySem.W.keepIn K (.ref f_row_gap) = true)
    (a_rest_gap : PySem.W.nsIn K mainGlobals "rest_gap" = some (some (.ref f_rest_gap)))
    (l_rest_gap : K.lookup f_rest_gap = some ⟨oc_rest_gap, od_rest_gap, .func (PySem.W.fnOf "rest_gap" "rest_gap" (defArgs s_rest_gap) (defBody s_rest_gap) (defScope s_rest_gap) .none kV_rest_gap dc_rest_gap pm_rest_gap_ an_rest_gap cd_rest_gap ct_rest_gap), sl_rest_gap⟩)
    (c_rest_gap : PySem.W.codeIn K cd_rest_gap "rest_gap" = true)
    (k_rest_gap : PySem.W.keepIn K (.ref f_rest_gap) = true)
    (a_gaps_told : PySem.W.nsIn K mainGlobals "gaps_told" = some (some (.ref f_gaps_told)))
    (l_gaps_told : K.lookup f_gaps_told = some ⟨oc_gaps_told, od_gaps_told, .func (PySem.W.fnOf "gaps_told" "gaps_told" (defArgs s_gaps_told) (defBody s_gaps_told) (defScope s_gaps_told) .none kV_gaps_told dc_gaps_told pm_gaps_told_ an_gaps_told cd_gaps_told ct_gaps_told), sl_gaps_told⟩)
    (c_gaps_told : PySem.W.codeIn K cd_gaps_told "gaps_told" = true)
    (k_gaps_told : PySem.W.keepIn K (.ref f_gaps_told) = true)
    (a_greatest_gap : PySem.W.nsIn K mainGlobals "greatest_gap" = some (some (.ref f_greatest_gap)))
    (l_greatest_gap : K.lookup f_greatest_gap = some ⟨oc_greatest_gap, od_greatest_gap, .func (PySem.W.fnOf "greatest_gap" "greatest_gap" (defArgs s_greatest_gap) (defBody s_greatest_gap) (defScope s_greatest_gap) .none kV_greatest_gap dc_greatest_gap pm_greatest_gap_ an_greatest_gap cd_greatest_gap ct_greatest_gap), sl_greatest_gap⟩)
    (c_greatest_gap : PySem.W.codeIn K cd_greatest_gap "greatest_gap" = true)
    (k_greatest_gap : PySem.W.keepIn K (.ref f_greatest_gap) = true)
    (a_gap_kind : PySem.W.nsIn K mainGlobals "gap_kind" = some (some (.ref f_gap_kind)))
    (l_gap_kind : K.lookup f_gap_kind = some ⟨oc_gap_kind, od_gap_kind, .func (PySem.W.fnOf "gap_kind" "gap_kind" (defArgs s_gap_kind) (defBody s_gap_kind) (defScope s_gap_kind) .none kV_gap_kind dc_gap_kind pm_gap_kind_ an_gap_kind cd_gap_kind ct_gap_kind), sl_gap_kind⟩)
    (c_gap_kind : PySem.W.codeIn K cd_gap_kind "gap_kind" = true)
    (k_gap_kind : PySem.W.keepIn K (.ref f_gap_kind) = true)
    (a_is_kept : PySem.W.nsIn K mainGlobals "is_kept" = some (some (.ref f_is_kept)))
    (l_is_kept : K.lookup f_is_kept = some ⟨oc_is_kept, od_is_kept, .func (PySem.W.fnOf "is_kept" "is_kept" (defArgs s_is_kept) (defBody s_is_kept) (defScope s_is_kept) .none kV_is_kept dc_is_kept pm_is_kept_ an_is_kept cd_is_kept ct_is_kept), sl_is_kept⟩)
    (c_is_kept : PySem.W.codeIn K cd_is_kept "is_kept" = true)
    (k_is_kept : PySem.W.keepIn K (.ref f_is_kept) = true)
    (a__law_pool : PySem.W.nsIn K mainGlobals "_law_pool" = some (some (.ref f__law_pool)))
    (l__law_pool : K.lookup f__law_pool = some ⟨oc__law_pool, od__law_pool, .func (PySem.W.fnOf "_law_pool" "_law_pool" (defArgs s__law_pool) (defBody s__law_pool) (defScope s__law_pool) .none kV__law_pool dc__law_pool pm__law_pool_ an__law_pool cd__law_pool ct__law_pool), sl__law_pool⟩)
    (c__law_pool : PySem.W.codeIn K cd__law_pool "_law_pool" = true)
    (k__law_pool : PySem.W.keepIn K (.ref f__law_pool) = true)
    (a__law_take : PySem.W.nsIn K mainGlobals "_law_take" = some (some (.ref f__law_take)))
    (l__law_take : K.lookup f__law_take = some ⟨oc__law_take, od__law_take, .func (PySem.W.fnOf "_law_take" "_law_take" (defArgs s__law_take) (defBody s__law_take) (defScope s__law_take) .none kV__law_take dc__law_take pm__law_take_ an__law_take cd__law_take ct__law_take), sl__law_take⟩)
    (c__law_take : PySem.W.codeIn K cd__law_take "_law_take" = true)
    (k__law_take : PySem.W.keepIn K (.ref f__law_take) = true)
    (a__law_stops : PySem.W.nsIn K mainGlobals "_law_stops" = some (some (.ref f__law_stops)))
    (l__law_stops : K.lookup f__law_stops = some ⟨oc__law_stops, od__law_stops, .func (PySem.W.fnOf "_law_stops" "_law_stops" (defArgs s__law_stops) (defBody s__law_stops) (defScope s__law_stops) .none kV__law_stops dc__law_stops pm__law_stops_ an__law_stops cd__law_stops ct__law_stops), sl__law_stops⟩)
    (c__law_stops : PySem.W.codeIn K cd__law_stops "_law_stops" = true)
    (k__law_stops : PySem.W.keepIn K (.ref f__law_stops) = true)
    (a__law_gap : PySem.W.nsIn K mainGlobals "_law_gap" = some (some (.ref f__law_gap)))
    (l__law_gap : K.lookup f__law_gap = some ⟨oc__law_gap, od__law_gap, .func (PySem.W.fnOf "_law_gap" "_law_gap" (defArgs s__law_gap) (defBody s__law_gap) (defScope s__law_gap) .none kV__law_gap dc__law_gap pm__law_gap_ an__law_gap cd__law_gap ct__law_gap), sl__law_gap⟩)
    (c__law_gap : PySem.W.codeIn K cd__law_gap "_law_gap" = true)
    (k__law_gap : PySem.W.keepIn K (.ref f__law_gap) = true)
    (a__law_road : PySem.W.nsIn K mainGlobals "_law_road" = some (some (.ref f__law_road)))
    (l__law_road : K.lookup f__law_road = some ⟨oc__law_road, od__law_road, .func (PySem.W.fnOf "_law_road" "_law_road" (defArgs s__law_road) (defBody s__law_road) (defScope s__law_road) .none kV__law_road dc__law_road pm__law_road_ an__law_road cd__law_road ct__law_road), sl__law_road⟩)
    (c__law_road : PySem.W.codeIn K cd__law_road "_law_road" = true)
    (k__law_road : PySem.W.keepIn K (.ref f__law_road) = true)
    (a__law_made : PySem.W.nsIn K mainGlobals "_law_made" = some (some (.ref f__law_made)))
    (l__law_made : K.lookup f__law_made = some ⟨oc__law_made, od__law_made, .func (PySem.W.fnOf "_law_made" "_law_made" (defArgs s__law_made) (defBody s__law_made) (defScope s__law_made) .none kV__law_made dc__law_made pm__law_made_ an__law_made cd__law_made ct__law_made), sl__law_made⟩)
    (c__law_made : PySem.W.codeIn K cd__law_made "_law_made" = true)
    (k__law_made : PySem.W.keepIn K (.ref f__law_made) = true)
    (a__law_gaps : PySem.W.nsIn K mainGlobals "_law_gaps" = some (some (.ref f__law_gaps)))
    (l__law_gaps : K.lookup f__law_gaps = some ⟨oc__law_gaps, od__law_gaps, .func (PySem.W.fnOf "_law_gaps" "_law_gaps" (defArgs s__law_gaps) (defBody s__law_gaps) (defScope s__law_gaps) .none kV__law_gaps dc__law_gaps pm__law_gaps_ an__law_gaps cd__law_gaps ct__law_gaps), sl__law_gaps⟩)
    (c__law_gaps : PySem.W.codeIn K cd__law_gaps "_law_gaps" = true)
    (k__law_gaps : PySem.W.keepIn K (.ref f__law_gaps) = true)
    (a__law_next : PySem.W.nsIn K mainGlobals "_law_next" = some (some (.ref f__law_next)))
    (l__law_next : K.lookup f__law_next = some ⟨oc__law_next, od__law_next, .func (PySem.W.fnOf "_law_next" "_law_next" (defArgs s__law_next) (defBody s__law_next) (defScope s__law_next) .none kV__law_next dc__law_next pm__law_next_ an__law_next cd__law_next ct__law_next), sl__law_next⟩)
    (c__law_next : PySem.W.codeIn K cd__law_next "_law_next" = true)
    (k__law_next : PySem.W.keepIn K (.ref f__law_next) = true)
    (a__law_played : PySem.W.nsIn K mainGlobals "_law_played" = some (some (.ref f__law_played)))
    (l__law_played : K.lookup f__law_played = some ⟨oc__law_played, od__law_played, .func (PySem.W.fnOf "_law_played" "_law_played" (defArgs s__law_played) (defBody s__law_played) (defScope s__law_played) .none kV__law_played dc__law_played pm__law_played_ an__law_played cd__law_played ct__law_played), sl__law_played⟩)
    (c__law_played : PySem.W.codeIn K cd__law_played "_law_played" = true)
    (k__law_played : PySem.W.keepIn K (.ref f__law_played) = true)
    (a__law_signs : PySem.W.nsIn K mainGlobals "_law_signs" = some (some (.ref f__law_signs)))
    (l__law_signs : K.lookup f__law_signs = some ⟨oc__law_signs, od__law_signs, .func (PySem.W.fnOf "_law_signs" "_law_signs" (defArgs s__law_signs) (defBody s__law_signs) (defScope s__law_signs) .none kV__law_signs dc__law_signs pm__law_signs_ an__law_signs cd__law_signs ct__law_signs), sl__law_signs⟩)
    (c__law_signs : PySem.W.codeIn K cd__law_signs "_law_signs" = true)
    (k__law_signs : PySem.W.keepIn K (.ref f__law_signs) = true)
    (a__law_small : PySem.W.nsIn K mainGlobals "_law_small" = some (some (.ref f__law_small)))
    (l__law_small : K.lookup f__law_small = some ⟨oc__law_small, od__law_small, .func (PySem.W.fnOf "_law_small" "_law_small" (defArgs s__law_small) (defBody s__law_small) (defScope s__law_small) .none kV__law_small dc__law_small pm__law_small_ an__law_small cd__law_small ct__law_small), sl__law_small⟩)
    (c__law_small : PySem.W.codeIn K cd__law_small "_law_small" = true)
    (k__law_small : PySem.W.keepIn K (.ref f__law_small) = true)
    (a__law_told_right : PySem.W.nsIn K mainGlobals "_law_told_right" = some (some (.ref f__law_told_right)))
    (l__law_told_right : K.lookup f__law_told_right = some ⟨oc__law_told_right, od__law_told_right, .func (PySem.W.fnOf "_law_told_right" "_law_told_right" (defArgs s__law_told_right) (defBody s__law_told_right) (defScope s__law_told_right) .none kV__law_told_right dc__law_told_right pm__law_told_right_ an__law_told_right cd__law_told_right ct__law_told_right), sl__law_told_right⟩)
    (c__law_told_right : PySem.W.codeIn K cd__law_told_right "_law_told_right" = true)
    (k__law_told_right : PySem.W.keepIn K (.ref f__law_told_right) = true)
    (a_law : PySem.W.nsIn K mainGlobals "law" = some (some (.ref f_law)))
    (l_law : K.lookup f_law = some ⟨oc_law, od_law, .func (PySem.W.fnOf "law" "law" (defArgs s_law) (defBody s_law) (defScope s_law) .none kV_law dc_law pm_law_ an_law cd_law ct_law), sl_law⟩)
    (c_law : PySem.W.codeIn K cd_law "law" = true)
    (k_law : PySem.W.keepIn K (.ref f_law) = true)
    (a_BadPart_init : PySem.W.findIn K (.ref ABadPart) "__init__" = some (some (.ref f_BadPart_init)))
    (i_BadPart_init : PySem.W.typeIn K (.ref f_BadPart_init) = some (.type "function"))
    (l_BadPart_init : K.lookup f_BadPart_init = some ⟨oc_BadPart_init, od_BadPart_init, .func (PySem.W.fnOf "__init__" "BadPart.__init__" (defArgs s_BadPart_init) (defBody s_BadPart_init) (defScope s_BadPart_init) .none kV_BadPart_init dc_BadPart_init pm_BadPart_init_ an_BadPart_init cd_BadPart_init ct_BadPart_init), sl_BadPart_init⟩)
    (c_BadPart_init : PySem.W.codeIn K cd_BadPart_init "BadPart.__init__" = true)
    (k_BadPart_init : PySem.W.keepIn K (.ref f_BadPart_init) = true)
    (a_BadBox_init : PySem.W.findIn K (.ref ABadBox) "__init__" = some (some (.ref f_BadBox_init)))
    (i_BadBox_init : PySem.W.typeIn K (.ref f_BadBox_init) = some (.type "function"))
    (l_BadBox_init : K.lookup f_BadBox_init = some ⟨oc_BadBox_init, od_BadBox_init, .func (PySem.W.fnOf "__init__" "BadBox.__init__" (defArgs s_BadBox_init) (defBody s_BadBox_init) (defScope s_BadBox_init) .none kV_BadBox_init dc_BadBox_init pm_BadBox_init_ an_BadBox_init cd_BadBox_init ct_BadBox_init), sl_BadBox_init⟩)
    (c_BadBox_init : PySem.W.codeIn K cd_BadBox_init "BadBox.__init__" = true)
    (k_BadBox_init : PySem.W.keepIn K (.ref f_BadBox_init) = true)
    (a_Way_init : PySem.W.findIn K (.ref AWay) "__init__" = some (some (.ref f_Way_init)))
    (i_Way_init : PySem.W.isFn K (.ref f_Way_init) = true)
    (l_Way_init : K.lookup f_Way_init = some ⟨oc_Way_init, od_Way_init, .func (PySem.W.fnOf "__init__" "Way.__init__" (defArgs s_Way_init) (defBody s_Way_init) (defScope s_Way_init) (.ref Td) kV_Way_init dc_Way_init pm_Way_init_ an_Way_init cd_Way_init ct_Way_init), sl_Way_init⟩)
    (c_Way_init : PySem.W.codeIn K cd_Way_init "Way.__init__" = true)
    (k_Way_init : PySem.W.keepIn K (.ref f_Way_init) = true)
    (a_Way_window : PySem.W.findIn K (.ref AWay) "window" = some (some (.ref f_Way_window)))
    (i_Way_window : PySem.W.isFn K (.ref f_Way_window) = true)
    (l_Way_window : K.lookup f_Way_window = some ⟨oc_Way_window, od_Way_window, .func (PySem.W.fnOf "window" "Way.window" (defArgs s_Way_window) (defBody s_Way_window) (defScope s_Way_window) .none kV_Way_window dc_Way_window pm_Way_window_ an_Way_window cd_Way_window ct_Way_window), sl_Way_window⟩)
    (c_Way_window : PySem.W.codeIn K cd_Way_window "Way.window" = true)
    (k_Way_window : PySem.W.keepIn K (.ref f_Way_window) = true)
    (a_Way_eq : PySem.W.findIn K (.ref AWay) "__eq__" = some (some (.ref f_Way_eq)))
    (i_Way_eq : PySem.W.isFn K (.ref f_Way_eq) = true)
    (l_Way_eq : K.lookup f_Way_eq = some ⟨oc_Way_eq, od_Way_eq, .func (PySem.W.fnOf "__eq__" "Way.__eq__" (defArgs s_Way_eq) (defBody s_Way_eq) (defScope s_Way_eq) .none kV_Way_eq dc_Way_eq pm_Way_eq_ an_Way_eq cd_Way_eq ct_Way_eq), sl_Way_eq⟩)
    (c_Way_eq : PySem.W.codeIn K cd_Way_eq "Way.__eq__" = true)
    (k_Way_eq : PySem.W.keepIn K (.ref f_Way_eq) = true)
    (a_Road_init : PySem.W.findIn K (.ref ARoad) "__init__" = some (some (.ref f_Road_init)))
    (i_Road_init : PySem.W.isFn K (.ref f_Road_init) = true)
    (l_Road_init : K.lookup f_Road_init = some ⟨oc_Road_init, od_Road_init, .func (PySem.W.fnOf "__init__" "Road.__init__" (defArgs s_Road_init) (defBody s_Road_init) (defScope s_Road_init) .none kV_Road_init dc_Road_init pm_Road_init_ an_Road_init cd_Road_init ct_Road_init), sl_Road_init⟩)
    (c_Road_init : PySem.W.codeIn K cd_Road_init "Road.__init__" = true)
    (k_Road_init : PySem.W.keepIn K (.ref f_Road_init) = true)
    (a_Road_eq : PySem.W.findIn K (.ref ARoad) "__eq__" = some (some (.ref f_Road_eq)))
    (i_Road_eq : PySem.W.isFn K (.ref f_Road_eq) = true)
    (l_Road_eq : K.lookup f_Road_eq = some ⟨oc_Road_eq, od_Road_eq, .func (PySem.W.fnOf "__eq__" "Road.__eq__" (defArgs s_Road_eq) (defBody s_Road_eq) (defScope s_Road_eq) .none kV_Road_eq dc_Road_eq pm_Road_eq_ an_Road_eq cd_Road_eq ct_Road_eq), sl_Road_eq⟩)
    (c_Road_eq : PySem.W.codeIn K cd_Road_eq "Road.__eq__" = true)
    (k_Road_eq : PySem.W.keepIn K (.ref f_Road_eq) = true)
    (a_Lull_init : PySem.W.findIn K (.ref ALull) "__init__" = some (some (.ref f_Lull_init)))
    (i_Lull_init : PySem.W.isFn K (.ref f_Lull_init) = true)
    (l_Lull_init : K.lookup f_Lull_init = some ⟨oc_Lull_init, od_Lull_init, .func (PySem.W.fnOf "__init__" "Lull.__init__" (defArgs s_Lull_init) (defBody s_Lull_init) (defScope s_Lull_init) .none kV_Lull_init dc_Lull_init pm_Lull_init_ an_Lull_init cd_Lull_init ct_Lull_init), sl_Lull_init⟩)
    (c_Lull_init : PySem.W.codeIn K cd_Lull_init "Lull.__init__" = true)
    (k_Lull_init : PySem.W.keepIn K (.ref f_Lull_init) = true)
    (a_Lull_eq : PySem.W.findIn K (.ref ALull) "__eq__" = some (some (.ref f_Lull_eq)))
    (i_Lull_eq : PySem.W.isFn K (.ref f_Lull_eq) = true)
    (l_Lull_eq : K.lookup f_Lull_eq = some ⟨oc_Lull_eq, od_Lull_eq, .func (PySem.W.fnOf "__eq__" "Lull.__eq__" (defArgs s_Lull_eq) (defBody s_Lull_eq) (defScope s_Lull_eq) .none kV_Lull_eq dc_Lull_eq pm_Lull_eq_ an_Lull_eq cd_Lull_eq ct_Lull_eq), sl_Lull_eq⟩)
    (c_Lull_eq : PySem.W.codeIn K cd_Lull_eq "Lull.__eq__" = true)
    (k_Lull_eq : PySem.W.keepIn K (.ref f_Lull_eq) = true)
    (d_T : K.lookup Td = some ⟨dcl, ddt, .seq #[.ref AT0] dn, dsl⟩)
    (d_0 : K.lookup AT0 = some ⟨.type "tuple", edt, .seq #[] en, esl⟩)
    (n_isinstance : PySem.W.nsIn K mainGlobals "isinstance" = some none)
    (n_int : PySem.W.nsIn K mainGlobals "int" = some none)
    (n_bool : PySem.W.nsIn K mainGlobals "bool" = some none)
    (n_list : PySem.W.nsIn K mainGlobals "list" = some none)
    (n_tuple : PySem.W.nsIn K mainGlobals "tuple" = some none)
    (n_len : PySem.W.nsIn K mainGlobals "len" = some none)
    (n_range : PySem.W.nsIn K mainGlobals "range" = some none)
    (n_max : PySem.W.nsIn K mainGlobals "max" = some none)
    (n_min : PySem.W.nsIn K mainGlobals "min" = some none)
    (n_enumerate : PySem.W.nsIn K mainGlobals "enumerate" = some none)
    (n_all : PySem.W.nsIn K mainGlobals "all" = some none)
    (n_any : PySem.W.nsIn K mainGlobals "any" = some none)
    (n_zip : PySem.W.nsIn K mainGlobals "zip" = some none)
    (n_dict : PySem.W.nsIn K mainGlobals "dict" = some none)
    (v_MOST_BEGIN : PySem.W.nsIn K mainGlobals "MOST_BEGIN" = some (some (.int 1000 t_MOST_BEGIN)))
    (v_MOST_DELAY : PySem.W.nsIn K mainGlobals "MOST_DELAY" = some (some (.int 50 t_MOST_DELAY)))
    (v_MOST_BOXES : PySem.W.nsIn K mainGlobals "MOST_BOXES" = some (some (.int 3 t_MOST_BOXES)))
    (v_MOST_KEEP : PySem.W.nsIn K mainGlobals "MOST_KEEP" = some (some (.int 10000 t_MOST_KEEP)))
    (v_MOST_TURN : PySem.W.nsIn K mainGlobals "MOST_TURN" = some (some (.int 200 t_MOST_TURN)))
    (v_MOST_ROWS : PySem.W.nsIn K mainGlobals "MOST_ROWS" = some (some (.int 3 t_MOST_ROWS)))
    (v_MOST_PARCELS : PySem.W.nsIn K mainGlobals "MOST_PARCELS" = some (some (.int 600 t_MOST_PARCELS)))
    (v_MOST_QUIET : PySem.W.nsIn K mainGlobals "MOST_QUIET" = some (some (.int 500 t_MOST_QUIET)))
    (v_MOST_LOST : PySem.W.nsIn K mainGlobals "MOST_LOST" = some (some (.int 3 t_MOST_LOST)))
    (v_MOST_PERIOD : PySem.W.nsIn K mainGlobals "MOST_PERIOD" = some (some (.int 200 t_MOST_PERIOD)))
    (s_hn : PySem.W.specialIn K (.builtin "object.__class__") "__get__" = some (some (.builtin "getset_descriptor.__get__")))
    (s_tk : PySem.W.takesIn K (.builtin "object.__class__") = some true)
    (pg_Way : PySem.W.plainGet K AWay Str.empty = true)
    (hd_Way : PySem.W.hasDictIn K AWay = true)
    (po_Way : PySem.W.plainOver K AWay = true)
    (sa_Way : PySem.W.findIn K (.ref AWay) "__setattr__" = some (some (.builtin "object.__setattr__")))
    (ha_Way : PySem.W.findIn K (.ref AWay) "__class__" = some (some (.builtin "object.__class__")))
    (hm_Way : PySem.W.mroIn K AWay (.type "object") = some true)
    (ne_Way : PySem.W.findIn K (.ref AWay) "__ne__" = some (some (.builtin "object.__ne__")))
    (is_Way : PySem.W.isClsIn K AWay = true)
    (ty_Way : PySem.W.typeIn K (.ref AWay) = some (.type "type"))
    (tup_Way : PySem.W.subIn K (.ref AWay) (.type "tuple") = some false)
    (lst_Way : PySem.W.subIn K (.ref AWay) (.type "list") = some false)
    (int_Way : PySem.W.subIn K (.ref AWay) (.type "int") = some false)
    (str_Way : PySem.W.subIn K (.ref AWay) (.type "str") = some false)
    (mk_Way : PySem.W.makesIn K AWay = true)
    (kc_Way : PySem.W.keepIn K (.ref AWay) = true)
    (na_Way_begin : PySem.W.findIn K (.ref AWay) "begin" = some none)
    (na_Way_least : PySem.W.findIn K (.ref AWay) "least" = some none)
    (na_Way_most : PySem.W.findIn K (.ref AWay) "most" = some none)
    (na_Way_boxes : PySem.W.findIn K (.ref AWay) "boxes" = some none)
    (pg_Road : PySem.W.plainGet K ARoad Str.empty = true)
    (hd_Road : PySem.W.hasDictIn K ARoad = true)
    (po_Road : PySem.W.plainOver K ARoad = true)
    (sa_Road : PySem.W.findIn K (.ref ARoad) "__setattr__" = some (some (.builtin "object.__setattr__")))
    (ha_Road : PySem.W.findIn K (.ref ARoad) "__class__" = some (some (.builtin "object.__class__")))
    (hm_Road : PySem.W.mroIn K ARoad (.type "object") = some true)
    (ne_Road : PySem.W.findIn K (.ref ARoad) "__ne__" = some (some (.builtin "object.__ne__")))
    (is_Road : PySem.W.isClsIn K ARoad = true)
    (ty_Road : PySem.W.typeIn K (.ref ARoad) = some (.type "type"))
    (tup_Road : PySem.W.subIn K (.ref ARoad) (.type "tuple") = some false)
    (lst_Road : PySem.W.subIn K (.ref ARoad) (.type "list") = some false)
    (int_Road : PySem.W.subIn K (.ref ARoad) (.type "int") = some false)
    (str_Road : PySem.W.subIn K (.ref ARoad) (.type "str") = some false)
    (mk_Road : PySem.W.makesIn K ARoad = true)
    (kc_Road : PySem.W.keepIn K (.ref ARoad) = true)
    (na_Road_way : PySem.W.findIn K (.ref ARoad) "way" = some none)
    (na_Road_last : PySem.W.findIn K (.ref ARoad) "last" = some none)
    (na_Road_turn : PySem.W.findIn K (.ref ARoad) "turn" = some none)
    (na_Road_losses : PySem.W.findIn K (.ref ARoad) "losses" = some none)
    (na_Road_rows : PySem.W.findIn K (.ref ARoad) "rows" = some none)
    (na_Road_quiet : PySem.W.findIn K (.ref ARoad) "quiet" = some none)
    (na_Road_period : PySem.W.findIn K (.ref ARoad) "period" = some none)
    (pg_Lull : PySem.W.plainGet K ALull Str.empty = true)
    (hd_Lull : PySem.W.hasDictIn K ALull = true)
    (po_Lull : PySem.W.plainOver K ALull = true)
    (sa_Lull : PySem.W.findIn K (.ref ALull) "__setattr__" = some (some (.builtin "object.__setattr__")))
    (ha_Lull : PySem.W.findIn K (.ref ALull) "__class__" = some (some (.builtin "object.__class__")))
    (hm_Lull : PySem.W.mroIn K ALull (.type "object") = some true)
    (ne_Lull : PySem.W.findIn K (.ref ALull) "__ne__" = some (some (.builtin "object.__ne__")))
    (is_Lull : PySem.W.isClsIn K ALull = true)
    (ty_Lull : PySem.W.typeIn K (.ref ALull) = some (.type "type"))
    (tup_Lull : PySem.W.subIn K (.ref ALull) (.type "tuple") = some false)
    (lst_Lull : PySem.W.subIn K (.ref ALull) (.type "list") = some false)
    (int_Lull : PySem.W.subIn K (.ref ALull) (.type "int") = some false)
    (str_Lull : PySem.W.subIn K (.ref ALull) (.type "str") = some false)
    (mk_Lull : PySem.W.makesIn K ALull = true)
    (kc_Lull : PySem.W.keepIn K (.ref ALull) = true)
    (na_Lull_delay : PySem.W.findIn K (.ref ALull) "delay" = some none)
    (na_Lull_turn : PySem.W.findIn K (.ref ALull) "turn" = some none)
    (na_Lull_losses : PySem.W.findIn K (.ref ALull) "losses" = some none)
    (na_Lull_quiet : PySem.W.findIn K (.ref ALull) "quiet" = some none)
    (xBadPart_L : K.lookup ABadPart = some (excClassObj xBadPart_nm xBadPart_q ABadPart xBadPart_N xBadPart_bs [.ref AWholeError, .type "ValueError", .type "Exception", .type "BaseException", .type "object"] true xBadPart_sn xBadPart_sub xBadPart_ab xBadPart_col xBadPart_dd xBadPart_m0 xBadPart_m1 xBadPart_m2 xBadPart_m3 xBadPart_m5 "ValueError.__new__"))
    (xBadPart_sa : PySem.W.findIn K (.ref ABadPart) "__setattr__" = some (some (.builtin "object.__setattr__")))
    (xBadPart_ex : PySem.W.subIn K (.ref ABadPart) (.type "BaseException") = some true)
    (xBadPart_ty : PySem.W.typeIn K (.ref ABadPart) = some (.type "type"))
    (xBadPart_kC : PySem.W.keepIn K (.ref ABadPart) = true)
    (xBadPart_noA : PySem.W.findIn K (.ref ABadPart) "part" = some none)
    (xBadPart_hg : PySem.W.findIn K (.ref ABadPart) "__getattribute__" = some (some (.builtin "BaseException.__getattribute__")))
    (xBadPart_hk : PySem.W.findIn K (.ref ABadPart) "__getattr__" = some none)
    (xBadPart_hd : PySem.W.hasDictIn K ABadPart = true)
    (xBadPart_ha : PySem.W.findIn K (.ref ABadPart) "__class__" = some (some (.builtin "object.__class__")))
    (xBadPart_hm : PySem.W.mroIn K ABadPart (.type "object") = some true)
    (xBadPart_is : PySem.W.isClsIn K ABadPart = true)
    (xBadPart_ss : PySem.W.subIn K (.ref ABadPart) (.ref ABadPart) = some true)
    (xBadPart_w : PySem.W.subIn K (.ref ABadPart) (.ref AWholeError) = some true)
    (xBadBox_L : K.lookup ABadBox = some (excClassObj xBadBox_nm xBadBox_q ABadBox xBadBox_N xBadBox_bs [.ref AWholeError, .type "ValueError", .type "Exception", .type "BaseException", .type "object"] true xBadBox_sn xBadBox_sub xBadBox_ab xBadBox_col xBadBox_dd xBadBox_m0 xBadBox_m1 xBadBox_m2 xBadBox_m3 xBadBox_m5 "ValueError.__new__"))
    (xBadBox_sa : PySem.W.findIn K (.ref ABadBox) "__setattr__" = some (some (.builtin "object.__setattr__")))
    (xBadBox_ex : PySem.W.subIn K (.ref ABadBox) (.type "BaseException") = some true)
    (xBadBox_ty : PySem.W.typeIn K (.ref ABadBox) = some (.type "type"))
    (xBadBox_kC : PySem.W.keepIn K (.ref ABadBox) = true)
    (xBadBox_noA : PySem.W.findIn K (.ref ABadBox) "index" = some none)
    (xBadBox_hg : PySem.W.findIn K (.ref ABadBox) "__getattribute__" = some (some (.builtin "BaseException.__getattribute__")))
    (xBadBox_hk : PySem.W.findIn K (.ref ABadBox) "__getattr__" = some none)
    (xBadBox_hd : PySem.W.hasDictIn K ABadBox = true)
    (xBadBox_ha : PySem.W.findIn K (.ref ABadBox) "__class__" = some (some (.builtin "object.__class__")))
    (xBadBox_hm : PySem.W.mroIn K ABadBox (.type "object") = some true)
    (xBadBox_is : PySem.W.isClsIn K ABadBox = true)
    (xBadBox_ss : PySem.W.subIn K (.ref ABadBox) (.ref ABadBox) = some true)
    (xBadBox_w : PySem.W.subIn K (.ref ABadBox) (.ref AWholeError) = some true)
    (xw_i : PySem.W.isClsIn K AWholeError = true)
    (xw_t : PySem.W.typeIn K (.ref AWholeError) = some (.type "type"))
    (xw_b : PySem.W.subIn K (.ref AWholeError) (.type "BaseException") = some true)
    : ∃ fd : FuncData, (∀ (s : Shared) (v : Value), BindsTo s fd ⟨[v], []⟩ [("_law_script", v)]) ∧ ∀ base : Heap, K.In base → base.Ns mainGlobals mg → FnOk P w K mg base CX0 53 fa fd ["_law_script"] (spLaw K) := by
  have e := hfa.symm.trans (PySem.W.mg_of X G a_law)
  cases e
  have F_is_integer := fun_mk (st := s_is_integer) l_is_integer c_is_integer k_is_integer
  have D_is_integer : DefAt K mg "is_integer" s_is_integer pm_is_integer := ⟨_, _, F_is_integer, PySem.W.mg_of X G a_is_integer, F_is_integer.binds (ps := pm_is_integer) fun _ _ _ _ _ _ us hl => match us, hl with | [_], _ => rfl⟩
  have F_is_between := fun_mk (st := s_is_between) l_is_between c_is_between k_is_between
  have D_is_between : DefAt K mg "is_between" s_is_between pm_is_between := ⟨_, _, F_is_between, PySem.W.mg_of X G a_is_between, F_is_between.binds (ps := pm_is_between) fun _ _ _ _ _ _ us hl => match us, hl with | [_, _, _], _ => rfl⟩
  have F_is_list := fun_mk (st := s_is_list) l_is_list c_is_list k_is_list
  have D_is_list : DefAt K mg "is_list" s_is_list pm_is_list := ⟨_, _, F_is_list, PySem.W.mg_of X G a_is_list, F_is_list.binds (ps := pm_is_list) fun _ _ _ _ _ _ us hl => match us, hl with | [_], _ => rfl⟩
  have F_is_list_of := fun_mk (st := s_is_list_of) l_is_list_of c_is_list_of k_is_list_of
  have D_is_list_of : DefAt K mg "is_list_of" s_is_list_of pm_is_list_of := ⟨_, _, F_is_list_of, PySem.W.mg_of X G a_is_list_of, F_is_list_of.binds (ps := pm_is_list_of) fun _ _ _ _ _ _ us hl => match us, hl with | [_, _, _], _ => rfl⟩
  have F_is_tuple_of := fun_mk (st := s_is_tuple_of) l_is_tuple_of c_is_tuple_of k_is_tuple_of
  have D_is_tuple_of : DefAt K mg "is_tuple_of" s_is_tuple_of pm_is_tuple_of := ⟨_, _, F_is_tuple_of, PySem.W.mg_of X G a_is_tuple_of, F_is_tuple_of.binds (ps := pm_is_tuple_of) fun _ _ _ _ _ _ us hl => match us, hl with | [_, _], _ => rfl⟩
  have F_is_begin := fun_mk (st := s_is_begin) l_is_begin c_is_begin k_is_begin
  have D_is_begin : DefAt K mg "is_begin" s_is_begin pm_is_begin := ⟨_, _, F_is_begin, PySem.W.mg_of X G a_is_begin, F_is_begin.binds (ps := pm_is_begin) fun _ _ _ _ _ _ us hl => match us, hl with | [_], _ => rfl⟩
  have F_are_delays := fun_mk (st := s_are_delays) l_are_delays c_are_delays k_are_delays
  have D_are_delays : DefAt K mg "are_delays" s_are_delays pm_are_delays := ⟨_, _, F_are_delays, PySem.W.mg_of X G a_are_delays, F_are_delays.binds (ps := pm_are_delays) fun _ _ _ _ _ _ us hl => match us, hl with | [_, _], _ => rfl⟩
  have F_is_box := fun_mk (st := s_is_box) l_is_box c_is_box k_is_box
  have D_is_box : DefAt K mg "is_box" s_is_box pm_is_box := ⟨_, _, F_is_box, PySem.W.mg_of X G a_is_box, F_is_box.binds (ps := pm_is_box) fun _ _ _ _ _ _ us hl => match us, hl with | [_, _, _], _ => rfl⟩
  have F_are_rows := fun_mk (st := s_are_rows) l_are_rows c_are_rows k_are_rows
  have D_are_rows : DefAt K mg "are_rows" s_are_rows pm_are_rows := ⟨_, _, F_are_rows, PySem.W.mg_of X G a_are_rows, F_are_rows.binds (ps := pm_are_rows) fun _ _ _ _ _ _ us hl => match us, hl with | [_], _ => rfl⟩
  have F_spread_of := fun_mk (st := s_spread_of) l_spread_of c_spread_of k_spread_of
  have D_spread_of : DefAt K mg "spread_of" s_spread_of pm_spread_of := ⟨_, _, F_spread_of, PySem.W.mg_of X G a_spread_of, F_spread_of.binds (ps := pm_spread_of) fun _ _ _ _ _ _ us hl => match us, hl with | [_], _ => rfl⟩
  have F_slack_of := fun_mk (st := s_slack_of) l_slack_of c_slack_of k_slack_of
  have D_slack_of : DefAt K mg "slack_of" s_slack_of pm_slack_of := ⟨_, _, F_slack_of, PySem.W.mg_of X G a_slack_of, F_slack_of.binds (ps := pm_slack_of) fun _ _ _ _ _ _ us hl => match us, hl with | [_], _ => rfl⟩
  have F_check_lull := fun_mk (st := s_check_lull) l_check_lull c_check_lull k_check_lull
  have D_check_lull : DefAt K mg "check_lull" s_check_lull pm_check_lull := ⟨_, _, F_check_lull, PySem.W.mg_of X G a_check_lull, F_check_lull.binds (ps := pm_check_lull) fun _ _ _ _ _ _ us hl => match us, hl with | [_, _, _], _ => rfl⟩
  have F_check_quiet := fun_mk (st := s_check_quiet) l_check_quiet c_check_quiet k_check_quiet
  have D_check_quiet : DefAt K mg "check_quiet" s_check_quiet pm_check_quiet := ⟨_, _, F_check_quiet, PySem.W.mg_of X G a_check_quiet, F_check_quiet.binds (ps := pm_check_quiet) fun _ _ _ _ _ _ us hl => match us, hl with | [_], _ => rfl⟩
  have F_lull_of := fun_mk (st := s_lull_of) l_lull_of c_lull_of k_lull_of
  have D_lull_of : DefAt K mg "lull_of" s_lull_of pm_lull_of := ⟨_, _, F_lull_of, PySem.W.mg_of X G a_lull_of, F_lull_of.binds (ps := pm_lull_of) fun _ _ _ _ _ _ us hl => match us, hl with | [_], _ => rfl⟩
  have F_stops_of := fun_mk (st := s_stops_of) l_stops_of c_stops_of k_stops_of
  have D_stops_of : DefAt K mg "stops_of" s_stops_of pm_stops_of := ⟨_, _, F_stops_of, PySem.W.mg_of X G a_stops_of, F_stops_of.binds (ps := pm_stops_of) fun _ _ _ _ _ _ us hl => match us, hl with | [_, _], _ => rfl⟩
  have F_widest := fun_mk (st := s_widest) l_widest c_widest k_widest
  have D_widest : DefAt K mg "widest" s_widest pm_widest := ⟨_, _, F_widest, PySem.W.mg_of X G a_widest, F_widest.binds (ps := pm_widest) fun _ _ _ _ _ _ us hl => match us, hl with | [_, _], _ => rfl⟩
  have F_signs_each := fun_mk (st := s_signs_each) l_signs_each c_signs_each k_signs_each
  have D_signs_each : DefAt K mg "signs_each" s_signs_each pm_signs_each := ⟨_, _, F_signs_each, PySem.W.mg_of X G a_signs_each, F_signs_each.binds (ps := pm_signs_each) fun _ _ _ _ _ _ us hl => match us, hl with | [_, _], _ => rfl⟩
  have F_race_gap := fun_mk (st := s_race_gap) l_race_gap c_race_gap k_race_gap
  have D_race_gap : DefAt K mg "race_gap" s_race_gap pm_race_gap := ⟨_, _, F_race_gap, PySem.W.mg_of X G a_race_gap, F_race_gap.binds (ps := pm_race_gap) fun _ _ _ _ _ _ us hl => match us, hl with | [_], _ => rfl⟩
  have F_row_gap := fun_mk (st := s_row_gap) l_row_gap c_row_gap k_row_gap
  have D_row_gap : DefAt K mg "row_gap" s_row_gap pm_row_gap := ⟨_, _, F_row_gap, PySem.W.mg_of X G a_row_gap, F_row_gap.binds (ps := pm_row_gap) fun _ _ _ _ _ _ us hl => match us, hl with | [_], _ => rfl⟩
  have F_rest_gap := fun_mk (st := s_rest_gap) l_rest_gap c_rest_gap k_rest_gap
  have D_rest_gap : DefAt K mg "rest_gap" s_rest_gap pm_rest_gap := ⟨_, _, F_rest_gap, PySem.W.mg_of X G a_rest_gap, F_rest_gap.binds (ps := pm_rest_gap) fun _ _ _ _ _ _ us hl => match us, hl with | [_], _ => rfl⟩
  have F_gaps_told := fun_mk (st := s_gaps_told) l_gaps_told c_gaps_told k_gaps_told
  have D_gaps_told : DefAt K mg "gaps_told" s_gaps_told pm_gaps_told := ⟨_, _, F_gaps_told, PySem.W.mg_of X G a_gaps_told, F_gaps_told.binds (ps := pm_gaps_told) fun _ _ _ _ _ _ us hl => match us, hl with | [_], _ => rfl⟩
  have F_greatest_gap := fun_mk (st := s_greatest_gap) l_greatest_gap c_greatest_gap k_greatest_gap
  have D_greatest_gap : DefAt K mg "greatest_gap" s_greatest_gap pm_greatest_gap := ⟨_, _, F_greatest_gap, PySem.W.mg_of X G a_greatest_gap, F_greatest_gap.binds (ps := pm_greatest_gap) fun _ _ _ _ _ _ us hl => match us, hl with | [_], _ => rfl⟩
  have F_gap_kind := fun_mk (st := s_gap_kind) l_gap_kind c_gap_kind k_gap_kind
  have D_gap_kind : DefAt K mg "gap_kind" s_gap_kind pm_gap_kind := ⟨_, _, F_gap_kind, PySem.W.mg_of X G a_gap_kind, F_gap_kind.binds (ps := pm_gap_kind) fun _ _ _ _ _ _ us hl => match us, hl with | [_], _ => rfl⟩
  have F_is_kept := fun_mk (st := s_is_kept) l_is_kept c_is_kept k_is_kept
  have D_is_kept : DefAt K mg "is_kept" s_is_kept pm_is_kept := ⟨_, _, F_is_kept, PySem.W.mg_of X G a_is_kept, F_is_kept.binds (ps := pm_is_kept) fun _ _ _ _ _ _ us hl => match us, hl with | [_], _ => rfl⟩
  have F__law_pool := fun_mk (st := s__law_pool) l__law_pool c__law_pool k__law_pool
  have D__law_pool : DefAt K mg "_law_pool" s__law_pool pm__law_pool := ⟨_, _, F__law_pool, PySem.W.mg_of X G a__law_pool, F__law_pool.binds (ps := pm__law_pool) fun _ _ _ _ _ _ us hl => match us, hl with | [_, _], _ => rfl⟩
  have F__law_take := fun_mk (st := s__law_take) l__law_take c__law_take k__law_take
  have D__law_take : DefAt K mg "_law_take" s__law_take pm__law_take := ⟨_, _, F__law_take, PySem.W.mg_of X G a__law_take, F__law_take.binds (ps := pm__law_take) fun _ _ _ _ _ _ us hl => match us, hl with | [_, _], _ => rfl⟩
  have F__law_stops := fun_mk (st := s__law_stops) l__law_stops c__law_stops k__law_stops
  have D__law_stops : DefAt K mg "_law_stops" s__law_stops pm__law_stops := ⟨_, _, F__law_stops, PySem.W.mg_of X G a__law_stops, F__law_stops.binds (ps := pm__law_stops) fun _ _ _ _ _ _ us hl => match us, hl with | [_, _], _ => rfl⟩
  have F__law_gap := fun_mk (st := s__law_gap) l__law_gap c__law_gap k__law_gap
  have D__law_gap : DefAt K mg "_law_gap" s__law_gap pm__law_gap := ⟨_, _, F__law_gap, PySem.W.mg_of X G a__law_gap, F__law_gap.binds (ps := pm__law_gap) fun _ _ _ _ _ _ us hl => match us, hl with | [_, _], _ => rfl⟩
  have F__law_road := fun_mk (st := s__law_road) l__law_road c__law_road k__law_road
  have D__law_road : DefAt K mg "_law_road" s__law_road pm__law_road := ⟨_, _, F__law_road, PySem.W.mg_of X G a__law_road, F__law_road.binds (ps := pm__law_road) fun _ _ _ _ _ _ us hl => match us, hl with | [_, _], _ => rfl⟩
  have F__law_made := fun_mk (st := s__law_made) l__law_made c__law_made k__law_made
  have D__law_made : DefAt K mg "_law_made" s__law_made pm__law_made := ⟨_, _, F__law_made, PySem.W.mg_of X G a__law_made, F__law_made.binds (ps := pm__law_made) fun _ _ _ _ _ _ us hl => match us, hl with | [_], _ => rfl⟩
  have F__law_gaps := fun_mk (st := s__law_gaps) l__law_gaps c__law_gaps k__law_gaps
  have D__law_gaps : DefAt K mg "_law_gaps" s__law_gaps pm__law_gaps := ⟨_, _, F__law_gaps, PySem.W.mg_of X G a__law_gaps, F__law_gaps.binds (ps := pm__law_gaps) fun _ _ _ _ _ _ us hl => match us, hl with | [_], _ => rfl⟩
  have F__law_next := fun_mk (st := s__law_next) l__law_next c__law_next k__law_next
  have D__law_next : DefAt K mg "_law_next" s__law_next pm__law_next := ⟨_, _, F__law_next, PySem.W.mg_of X G a__law_next, F__law_next.binds (ps := pm__law_next) fun _ _ _ _ _ _ us hl => match us, hl with | [_, _, _, _], _ => rfl⟩
  have F__law_played := fun_mk (st := s__law_played) l__law_played c__law_played k__law_played
  have D__law_played : DefAt K mg "_law_played" s__law_played pm__law_played := ⟨_, _, F__law_played, PySem.W.mg_of X G a__law_played, F__law_played.binds (ps := pm__law_played) fun _ _ _ _ _ _ us hl => match us, hl with | [_, _, _, _, _, _], _ => rfl⟩
  have F__law_signs := fun_mk (st := s__law_signs) l__law_signs c__law_signs k__law_signs
  have D__law_signs : DefAt K mg "_law_signs" s__law_signs pm__law_signs := ⟨_, _, F__law_signs, PySem.W.mg_of X G a__law_signs, F__law_signs.binds (ps := pm__law_signs) fun _ _ _ _ _ _ us hl => match us, hl with | [_, _, _, _], _ => rfl⟩
  have F__law_small := fun_mk (st := s__law_small) l__law_small c__law_small k__law_small
  have D__law_small : DefAt K mg "_law_small" s__law_small pm__law_small := ⟨_, _, F__law_small, PySem.W.mg_of X G a__law_small, F__law_small.binds (ps := pm__law_small) fun _ _ _ _ _ _ us hl => match us, hl with | [_], _ => rfl⟩
  have F__law_told_right := fun_mk (st := s__law_told_right) l__law_told_right c__law_told_right k__law_told_right
  have D__law_told_right : DefAt K mg "_law_told_right" s__law_told_right pm__law_told_right := ⟨_, _, F__law_told_right, PySem.W.mg_of X G a__law_told_right, F__law_told_right.binds (ps := pm__law_told_right) fun _ _ _ _ _ _ us hl => match us, hl with | [_], _ => rfl⟩
  have F_BadPart_init := fun_mk (st := s_BadPart_init) l_BadPart_init c_BadPart_init k_BadPart_init
  have F_BadBox_init := fun_mk (st := s_BadBox_init) l_BadBox_init c_BadBox_init k_BadBox_init
  have FI : FunD K "__init__" "Way.__init__" (defArgs s_Way_init) (defBody s_Way_init) (defScope s_Way_init) [.ref AT0] [] f_Way_init _ := ⟨⟨_, _, _, _, _, _, _, _, _, _, rfl, l_Way_init, c_Way_init, .inr ⟨(fun z => nomatch z), Td, _, [.ref AT0], dn, rfl, d_T, rfl, .cons rfl .nil⟩, .inl rfl⟩, k_Way_init⟩
  obtain ⟨d4, v4, B4⟩ := FI.binds1 (ps := pm_Way_init) 5 1 (fun z => nomatch z) rfl (fun T kV doc pm an cdv ct us its hu hi => match us, hu, its, hi with | [_, _, _, _, _], _, [_], _ => ⟨_, rfl, rfl⟩)
  obtain ⟨d3, v3, B3⟩ := FI.binds1 (ps := pm_Way_init) 4 0 (fun z => nomatch z) rfl (fun T kV doc pm an cdv ct us its hu hi => match us, hu, its, hi with | [_, _, _, _], _, [_], _ => ⟨_, rfl, rfl⟩)
  cases v4
  have F_Way_window := fun_mk (st := s_Way_window) l_Way_window c_Way_window k_Way_window
  have M_Way_window : MethAt K AWay "window" "Way.window" s_Way_window pm_Way_window := ⟨_, _, F_Way_window, a_Way_window, i_Way_window, F_Way_window.binds (ps := pm_Way_window) fun _ _ _ _ _ _ us hl => match us, hl with | [_], _ => rfl⟩
  have F_Way_eq := fun_mk (st := s_Way_eq) l_Way_eq c_Way_eq k_Way_eq
  have M_Way_eq : MethAt K AWay "__eq__" "Way.__eq__" s_Way_eq pm_Way_eq := ⟨_, _, F_Way_eq, a_Way_eq, i_Way_eq, F_Way_eq.binds (ps := pm_Way_eq) fun _ _ _ _ _ _ us hl => match us, hl with | [_, _], _ => rfl⟩
  have F_Road_init := fun_mk (st := s_Road_init) l_Road_init c_Road_init k_Road_init
  have M_Road_init : MethAt K ARoad "__init__" "Road.__init__" s_Road_init pm_Road_init := ⟨_, _, F_Road_init, a_Road_init, i_Road_init, F_Road_init.binds (ps := pm_Road_init) fun _ _ _ _ _ _ us hl => match us, hl with | [_, _, _, _, _, _, _, _], _ => rfl⟩
  have F_Road_eq := fun_mk (st := s_Road_eq) l_Road_eq c_Road_eq k_Road_eq
  have M_Road_eq : MethAt K ARoad "__eq__" "Road.__eq__" s_Road_eq pm_Road_eq := ⟨_, _, F_Road_eq, a_Road_eq, i_Road_eq, F_Road_eq.binds (ps := pm_Road_eq) fun _ _ _ _ _ _ us hl => match us, hl with | [_, _], _ => rfl⟩
  have F_Lull_init := fun_mk (st := s_Lull_init) l_Lull_init c_Lull_init k_Lull_init
  have M_Lull_init : MethAt K ALull "__init__" "Lull.__init__" s_Lull_init pm_Lull_init := ⟨_, _, F_Lull_init, a_Lull_init, i_Lull_init, F_Lull_init.binds (ps := pm_Lull_init) fun _ _ _ _ _ _ us hl => match us, hl with | [_, _, _, _, _], _ => rfl⟩
  have F_Lull_eq := fun_mk (st := s_Lull_eq) l_Lull_eq c_Lull_eq k_Lull_eq
  have M_Lull_eq : MethAt K ALull "__eq__" "Lull.__eq__" s_Lull_eq pm_Lull_eq := ⟨_, _, F_Lull_eq, a_Lull_eq, i_Lull_eq, F_Lull_eq.binds (ps := pm_Lull_eq) fun _ _ _ _ _ _ us hl => match us, hl with | [_, _], _ => rfl⟩
  have T : Txt K mg ⟨ABadPart, ABadBox, AWholeError, AWay, ARoad, ALull, AT0⟩ :=
    { n_isinstance := PySem.W.mg_none_of X G n_isinstance,
      n_int := PySem.W.mg_none_of X G n_int,
      n_bool := PySem.W.mg_none_of X G n_bool,
      n_list := PySem.W.mg_none_of X G n_list,
      n_tuple := PySem.W.mg_none_of X G n_tuple,
      n_len := PySem.W.mg_none_of X G n_len,
      n_range := PySem.W.mg_none_of X G n_range,
      n_max := PySem.W.mg_none_of X G n_max,
      n_min := PySem.W.mg_none_of X G n_min,
      n_enumerate := PySem.W.mg_none_of X G n_enumerate,
      n_all := PySem.W.mg_none_of X G n_all,
      n_any := PySem.W.mg_none_of X G n_any,
      n_zip := PySem.W.mg_none_of X G n_zip,
      n_dict := PySem.W.mg_none_of X G n_dict,
      g_MOST_BEGIN := ⟨_, PySem.W.mg_of X G v_MOST_BEGIN⟩,
      g_MOST_DELAY := ⟨_, PySem.W.mg_of X G v_MOST_DELAY⟩,
      g_MOST_BOXES := ⟨_, PySem.W.mg_of X G v_MOST_BOXES⟩,
      g_MOST_KEEP := ⟨_, PySem.W.mg_of X G v_MOST_KEEP⟩,
      g_MOST_TURN := ⟨_, PySem.W.mg_of X G v_MOST_TURN⟩,
      g_MOST_ROWS := ⟨_, PySem.W.mg_of X G v_MOST_ROWS⟩,
      g_MOST_PARCELS := ⟨_, PySem.W.mg_of X G v_MOST_PARCELS⟩,
      g_MOST_QUIET := ⟨_, PySem.W.mg_of X G v_MOST_QUIET⟩,
      g_MOST_LOST := ⟨_, PySem.W.mg_of X G v_MOST_LOST⟩,
      g_MOST_PERIOD := ⟨_, PySem.W.mg_of X G v_MOST_PERIOD⟩,
      Way := ⟨PySem.W.mg_of X G g_Way, ⟨pg_Way, hd_Way, po_Way, sa_Way⟩, ha_Way, s_hn, s_tk, hm_Way, ne_Way, is_Way, ty_Way, tup_Way, lst_Way, int_Way, str_Way⟩,
      w_begin := na_Way_begin,
      w_least := na_Way_least,
      w_most := na_Way_most,
      w_boxes := na_Way_boxes,
      Road := ⟨PySem.W.mg_of X G g_Road, ⟨pg_Road, hd_Road, po_Road, sa_Road⟩, ha_Road, s_hn, s_tk, hm_Road, ne_Road, is_Road, ty_Road, tup_Road, lst_Road, int_Road, str_Road⟩,
      r_way := na_Road_way,
      r_last := na_Road_last,
      r_turn := na_Road_turn,
      r_losses := na_Road_losses,
      r_rows := na_Road_rows,
      r_quiet := na_Road_quiet,
      r_period := na_Road_period,
      Lull := ⟨PySem.W.mg_of X G g_Lull, ⟨pg_Lull, hd_Lull, po_Lull, sa_Lull⟩, ha_Lull, s_hn, s_tk, hm_Lull, ne_Lull, is_Lull, ty_Lull, tup_Lull, lst_Lull, int_Lull, str_Lull⟩,
      c_delay := na_Lull_delay,
      c_turn := na_Lull_turn,
      c_losses := na_Lull_losses,
      c_quiet := na_Lull_quiet,
      BadPart := ⟨⟨⟨_, _, _, _, _, _, _, _, _, _, _, _, _, _, _, xBadPart_L, ve_one⟩, xBadPart_sa, xBadPart_ex, xBadPart_ty, xBadPart_kC⟩, PySem.W.mg_of X G g_BadPart, xBadPart_noA, ⟨xBadPart_hg, xBadPart_hk, xBadPart_ex, xBadPart_hd, xBadPart_ha, s_hn, s_tk, xBadPart_hm⟩, _, a_BadPart_init, i_BadPart_init, _, F_BadPart_init, F_BadPart_init.binds (ps := ["self", "part"]) fun _ _ _ _ _ _ us hl => match us, hl with | [_, _], _ => rfl⟩,
      BadBox := ⟨⟨⟨_, _, _, _, _, _, _, _, _, _, _, _, _, _, _, xBadBox_L, ve_one⟩, xBadBox_sa, xBadBox_ex, xBadBox_ty, xBadBox_kC⟩, PySem.W.mg_of X G g_BadBox, xBadBox_noA, ⟨xBadBox_hg, xBadBox_hk, xBadBox_ex, xBadBox_hd, xBadBox_ha, s_hn, s_tk, xBadBox_hm⟩, _, a_BadBox_init, i_BadBox_init, _, F_BadBox_init, F_BadBox_init.binds (ps := ["self", "index"]) fun _ _ _ _ _ _ us hl => match us, hl with | [_, _], _ => rfl⟩,
      g_WholeError := PySem.W.mg_of X G g_WholeError,
      x_pp := exm_ref xBadPart_ex xBadPart_is xBadPart_ty xBadPart_ss,
      k_pw := kit_ref xw_i xw_t xBadPart_w xBadPart_ss,
      t0 := fun H => .inr ⟨_, #[], en, d_0, rfl, rfl, Nat.zero_le _, .nil⟩ }
  exact ⟨PySem.W.fnOf "law" "law" (defArgs s_law) (defBody s_law) (defScope s_law) .none kV_law dc_law pm_law_ an_law cd_law ct_law, fun s v => .of_eq rfl, fun base _ _ =>
    law_ok T D_is_integer D_is_between D_is_list D_is_list_of D_is_tuple_of D_is_begin D_are_delays D_is_box D_are_rows D_spread_of D_slack_of D_check_lull D_check_quiet D_lull_of D_stops_of D_widest D_signs_each D_race_gap D_row_gap D_rest_gap D_gaps_told D_greatest_gap D_gap_kind D_is_kept D__law_pool D__law_take D__law_stops D__law_gap D__law_road D__law_made D__law_gaps D__law_next D__law_played D__law_signs D__law_small D__law_told_right M_Way_window M_Way_eq M_Road_init M_Road_eq M_Lull_init M_Lull_eq mk_Road kc_Road mk_Lull kc_Lull FI ⟨mk_Way, a_Way_init, i_Way_init, kc_Way⟩ B4 v3 B3 (fun_mk (st := s_law) l_law c_law k_law)⟩
theorem walk {l : PySem.W.OpenLaw} {q : Program} {loose : List Str} {XP : (Str → Option Value) → Heap → Prop} {YP : World → Heap → Prop} {d : DefRec} {K : Params → PySem.W.Frag} (hn : l.most = some 63) (hdf : d.params.defaults = [])
    (hY : ∀ (w : World) (h : Heap), YP w h → (K w.params).In h)
    (F : ∀ (w : World) (mg : Str → Option Value) (fa : Addr) (h : Heap), (K w.params).In h → h.Ns mainGlobals mg → mg d.name = some (.ref fa) →
      ∃ fd : FuncData, (∀ (s : Shared) (u : Value), BindsTo s fd ⟨[u], []⟩ [("_law_script", u)]) ∧ ∀ base : Heap, (K w.params).In base → base.Ns mainGlobals mg → FnOk l.prog w (K w.params) mg base CX0 53 fa fd ["_law_script"] (spLaw (K w.params))) :
    PySem.W.WalkO q loose XP YP l.row.toRowW d [] (fun f vs => PySem.call f vs) :=
  L2.walk_of (n := 63) (k := 53) (x := "_law_script") (CX := fun _ => CX0) (sp := fun w => spLaw (K w.params)) hn (by decide) hdf ⟨rfl, by decide, by decide⟩ hY F (fun _ _ a ns hl _ hS => ⟨a, ns, rfl, hS, hl, fun _ => rfl⟩) fun _ _ _ _ _ z => z
end K31

open PySem PySem.W PyProof.Rows in
set_option maxRecDepth 100000 in
set_option maxHeartbeats 0 in
theorem PySem.Challenge.cw_wholeline_k31_whole_greatest_gaps_of_roa_holds : PySem.Challenge.rw_wholeline_k31_whole_greatest_gaps_of_roa.Holds := by
  w_on; o_law; k_head; (case hw => w_witness2)
  k_fill
  refine K31.walk (l := PySem.Challenge.rw_wholeline_k31_whole_greatest_gaps_of_roa) rfl rfl (fun w h Y => PySem.W.kIn_of Y) ?F
  case F =>
    intro w mg fa h KX G hmg
    refine' K31.all_mk KX G hmg ?q_g_BadPart ?q_g_BadBox ?q_g_WholeError ?q_g_Way ?q_g_Road ?q_g_Lull ?q_a_is_integer ?q_l_is_integer ?q_c_is_integer ?q_k_is_integer ?q_a_is_between ?q_l_is_between ?q_c_is_between ?q_k_is_between ?q_a_is_list ?q_l_is_list ?q_c_is_list ?q_k_is_list ?q_a_is_list_of ?q_l_is_list_of ?q_c_is_list_of ?q_k_is_list_of ?q_a_is_tuple_of ?q_l_is_tuple_of ?q_c_is_tuple_of ?q_k_is_tuple_of ?q_a_is_begin ?q_l_is_begin ?q_c_is_begin ?q_k_is_begin ?q_a_are_delays ?q_l_are_delays ?q_c_are_delays ?q_k_are_delays ?q_a_is_box ?q_l_is_box ?q_c_is_box ?q_k_is_box ?q_a_are_rows ?q_l_are_rows ?q_c_are_rows ?q_k_are_rows ?q_a_spread_of ?q_l_spread_of ?q_c_spread_of ?q_k_spread_of ?q_a_slack_of ?q_l_slack_of ?q_c_slack_of ?q_k_slack_of ?q_a_check_lull ?q_l_check_lull ?q_c_check_lull ?q_k_check_lull ?q_a_check_quiet ?q_l_check_quiet ?q_c_check_quiet ?q_k_check_quiet ?q_a_lull_of ?q_l_lull_of ?q_c_lull_of ?q_k_lull_of ?q_a_stops_of ?q_l_stops_of ?q_c_stops_of ?q_k_stops_of ?q_a_widest ?q_l_widest ?q_c_widest ?q_k_widest ?q_a_signs_each ?q_l_signs_each ?q_c_signs_each ?q_k_signs_each ?q_a_race_gap ?q_l_race_gap ?q_c_race_gap ?q_k_race_gap ?q_a_row_gap ?q_l_row_gap ?q_c_row_gap ?q_k_row_gap ?q_a_rest_gap ?q_l_rest_gap ?q_c_rest_gap ?q_k_rest_gap ?q_a_gaps_told ?q_l_gaps_told ?q_c_gaps_told ?q_k_gaps_told ?q_a_greatest_gap ?q_l_greatest_gap ?q_c_greatest_gap ?q_k_greatest_gap ?q_a_gap_kind ?q_l_gap_kind ?q_c_gap_kind ?q_k_gap_kind ?q_a_is_kept ?q_l_is_kept ?q_c_is_kept ?q_k_is_kept ?q_a__law_pool ?q_l__law_pool ?q_c__law_pool ?q_k__law_pool ?q_a__law_take ?q_l__law_take ?q_c__law_take ?q_k__law_take ?q_a__law_stops ?q_l__law_stops ?q_c__law_stops ?q_k__law_stops ?q_a__law_gap ?q_l__law_gap ?q_c__law_gap ?q_k__law_gap ?q_a__law_road ?q_l__law_road ?q_c__law_road ?q_k__law_road ?q_a__law_made ?q_l__law_made ?q_c__law_made ?q_k__law_made ?q_a__law_gaps ?q_l__law_gaps ?q_c__law_gaps ?q_k__law_gaps ?q_a__law_next ?q_l__law_next ?q_c__law_next ?q_k__law_next ?q_a__law_played ?q_l__law_played ?q_c__law_played ?q_k__law_played ?q_a__law_signs ?q_l__law_signs ?q_c__law_signs ?q_k__law_signs ?q_a__law_small ?q_l__law_small ?q_c__law_small ?q_k__law_small ?q_a__law_told_right ?q_l__law_told_right ?q_c__law_told_right ?q_k__law_told_right ?q_a_law ?q_l_law ?q_c_law ?q_k_law ?q_a_BadPart_init ?q_i_BadPart_init ?q_l_BadPart_init ?q_c_BadPart_init ?q_k_BadPart_init ?q_a_BadBox_init ?q_i_BadBox_init ?q_l_BadBox_init ?q_c_BadBox_init ?q_k_BadBox_init ?q_a_Way_init ?q_i_Way_init ?q_l_Way_init ?q_c_Way_init ?q_k_Way_init ?q_a_Way_window ?q_i_Way_window ?q_l_Way_window ?q_c_Way_window ?q_k_Way_window ?q_a_Way_eq ?q_i_Way_eq ?q_l_Way_eq ?q_c_Way_eq ?q_k_Way_eq ?q_a_Road_init ?q_i_Road_init ?q_l_Road_init ?q_c_Road_init ?q_k_Road_init ?q_a_Road_eq ?q_i_Road_eq ?q_l_Road_eq ?q_c_Road_eq ?q_k_Road_eq ?q_a_Lull_init ?q_i_Lull_init ?q_l_Lull_init ?q_c_Lull_init ?q_k_Lull_init ?q_a_Lull_eq ?q_i_Lull_eq ?q_l_Lull_eq ?q_c_Lull_eq ?q_k_Lull_eq ?q_d_T ?q_d_0 ?q_n_isinstance ?q_n_int ?q_n_bool ?q_n_list ?q_n_tuple ?q_n_len ?q_n_range ?q_n_max ?q_n_min ?q_n_enumerate ?q_n_all ?q_n_any ?q_n_zip ?q_n_dict ?q_v_MOST_BEGIN ?q_v_MOST_DELAY ?q_v_MOST_BOXES ?q_v_MOST_KEEP ?q_v_MOST_TURN ?q_v_MOST_ROWS ?q_v_MOST_PARCELS ?q_v_MOST_QUIET ?q_v_MOST_LOST ?q_v_MOST_PERIOD ?q_s_hn ?q_s_tk ?q_pg_Way ?q_hd_Way ?q_po_Way ?q_sa_Way ?q_ha_Way ?q_hm_Way ?q_ne_Way ?q_is_Way ?q_ty_Way ?q_tup_Way ?q_lst_Way ?q_int_Way ?q_str_Way ?q_mk_Way ?q_kc_Way ?q_na_Way_begin ?q_na_Way_least ?q_na_Way_most ?q_na_Way_boxes ?q_pg_Road ?q_hd_Road ?q_po_Road ?q_sa_Road ?q_ha_Road ?q_hm_Road ?q_ne_Road ?q_is_Road ?q_ty_Road ?q_tup_Road ?q_lst_Road ?q_int_Road ?q_str_Road ?q_mk_Road ?q_kc_Road ?q_na_Road_way ?q_na_Road_last ?q_na_Road_turn ?q_na_Road_losses ?q_na_Road_rows ?q_na_Road_quiet ?q_na_Road_period ?q_pg_Lull ?q_hd_Lull ?q_po_Lull ?q_sa_Lull ?q_ha_Lull ?q_hm_Lull ?q_ne_Lull ?q_is_Lull ?q_ty_Lull ?q_tup_Lull ?q_lst_Lull ?q_int_Lull ?q_str_Lull ?q_mk_Lull ?q_kc_Lull ?q_na_Lull_delay ?q_na_Lull_turn ?q_na_Lull_losses ?q_na_Lull_quiet ?q_xBadPart_L ?q_xBadPart_sa ?q_xBadPart_ex ?q_xBadPart_ty ?q_xBadPart_kC ?q_xBadPart_noA ?q_xBadPart_hg ?q_xBadPart_hk ?q_xBadPart_hd ?q_xBadPart_ha ?q_xBadPart_hm ?q_xBadPart_is ?q_xBadPart_ss ?q_xBadPart_w ?q_xBadBox_L ?q_xBadBox_sa ?q_xBadBox_ex ?q_xBadBox_ty ?q_xBadBox_kC ?q_xBadBox_noA ?q_xBadBox_hg ?q_xBadBox_hk ?q_xBadBox_hd ?q_xBadBox_ha ?q_xBadBox_hm ?q_xBadBox_is ?q_xBadBox_ss ?q_xBadBox_w ?q_xw_i ?q_xw_t ?q_xw_b
    (case q_g_BadPart => k_is)
    (case q_g_BadBox => k_is)
    (case q_g_WholeError => k_is)
    (case q_g_Way => k_is)
    (case q_g_Road => k_is)
    (case q_g_Lull => k_is)
    (case q_a_is_integer => k_is)
    (case q_l_is_integer => k_is)
    (case q_c_is_integer => k_is)
    (case q_k_is_integer => k_is)
    (case q_a_is_between => k_is)
    (case q_l_is_between => k_is)
    (case q_c_is_between => k_is)
    (case q_k_is_between => k_is)
    (case q_a_is_list => k_is)
    (case q_l_is_list => k_is)
    (case q_c_is_list => k_is)
    (case q_k_is_list => k_is)
    (case q_a_is_list_of => k_is)
    (case q_l_is_list_of => k_is)
    (case q_c_is_list_of => k_is)
    (case q_k_is_list_of => k_is)
    (case q_a_is_tuple_of => k_is)
    (case q_l_is_tuple_of => k_is)
    (case q_c_is_tuple_of => k_is)
    (case q_k_is_tuple_of => k_is)
    (case q_a_is_begin => k_is)
    (case q_l_is_begin => k_is)
    (case q_c_is_begin => k_is)
    (case q_k_is_begin => k_is)
    (case q_a_are_delays => k_is)
    (case q_l_are_delays => k_is)
    (case q_c_are_delays => k_is)
    (case q_k_are_delays => k_is)
    (case q_a_is_box => k_is)
    (case q_l_is_box => k_is)
    (case q_c_is_box => k_is)
    (case q_k_is_box => k_is)
    (case q_a_are_rows => k_is)
    (case q_l_are_rows => k_is)
    (case q_c_are_rows => k_is)
    (case q_k_are_rows => k_is)
    (case q_a_spread_of => k_is)
    (case q_l_spread_of => k_is)
    (case q_c_spread_of => k_is)
    (case q_k_spread_of => k_is)
    (case q_a_slack_of => k_is)
    (case q_l_slack_of => k_is)
    (case q_c_slack_of => k_is)
    (case q_k_slack_of => k_is)
    (case q_a_check_lull => k_is)
    (case q_l_check_lull => k_is)
    (case q_c_check_lull => k_is)
    (case q_k_check_lull => k_is)
    (case q_a_check_quiet => k_is)
    (case q_l_check_quiet => k_is)
    (case q_c_check_quiet => k_is)
    (case q_k_check_quiet => k_is)
    (case q_a_lull_of => k_is)
    (case q_l_lull_of => k_is)
    (case q_c_lull_of => k_is)
    (case q_k_lull_of => k_is)
    (case q_a_stops_of => k_is)
    (case q_l_stops_of => k_is)
    (case q_c_stops_of => k_is)
    (case q_k_stops_of => k_is)
    (case q_a_widest => k_is)
    (case q_l_widest => k_is)
    (case q_c_widest => k_is)
    (case q_k_widest => k_is)
    (case q_a_signs_each => k_is)
    (case q_l_signs_each => k_is)
    (case q_c_signs_each => k_is)
    (case q_k_signs_each => k_is)
    (case q_a_race_gap => k_is)
    (case q_l_race_gap => k_is)
    (case q_c_race_gap => k_is)
    (case q_k_race_gap => k_is)
    (case q_a_row_gap => k_is)
    (case q_l_row_gap => k_is)
    (case q_c_row_gap => k_is)
    (case q_k_row_gap => k_is)
    (case q_a_rest_gap => k_is)
    (case q_l_rest_gap => k_is)
    (case q_c_rest_gap => k_is)
    (case q_k_rest_gap => k_is)
    (case q_a_gaps_told => k_is)
    (case q_l_gaps_told => k_is)
    (case q_c_gaps_told => k_is)
    (case q_k_gaps_told => k_is)
    (case q_a_greatest_gap => k_is)
    (case q_l_greatest_gap => k_is)
    (case q_c_greatest_gap => k_is)
    (case q_k_greatest_gap => k_is)
    (case q_a_gap_kind => k_is)
    (case q_l_gap_kind => k_is)
    (case q_c_gap_kind => k_is)
    (case q_k_gap_kind => k_is)
    (case q_a_is_kept => k_is)
    (case q_l_is_kept => k_is)
    (case q_c_is_kept => k_is)
    (case q_k_is_kept => k_is)
    (case q_a__law_pool => k_is)
    (case q_l__law_pool => k_is)
    (case q_c__law_pool => k_is)
    (case q_k__law_pool => k_is)
    (case q_a__law_take => k_is)
    (case q_l__law_take => k_is)
    (case q_c__law_take => k_is)
    (case q_k__law_take => k_is)
    (case q_a__law_stops => k_is)
    (case q_l__law_stops => k_is)
    (case q_c__law_stops => k_is)
    (case q_k__law_stops => k_is)
    (case q_a__law_gap => k_is)
    (case q_l__law_gap => k_is)
    (case q_c__law_gap => k_is)
    (case q_k__law_gap => k_is)
    (case q_a__law_road => k_is)
    (case q_l__law_road => k_is)
    (case q_c__law_road => k_is)
    (case q_k__law_road => k_is)
    (case q_a__law_made => k_is)
    (case q_l__law_made => k_is)
    (case q_c__law_made => k_is)
    (case q_k__law_made => k_is)
    (case q_a__law_gaps => k_is)
    (case q_l__law_gaps => k_is)
    (case q_c__law_gaps => k_is)
    (case q_k__law_gaps => k_is)
    (case q_a__law_next => k_is)
    (case q_l__law_next => k_is)
    (case q_c__law_next => k_is)
    (case q_k__law_next => k_is)
    (case q_a__law_played => k_is)
    (case q_l__law_played => k_is)
    (case q_c__law_played => k_is)
    (case q_k__law_played => k_is)
    (case q_a__law_signs => k_is)
    (case q_l__law_signs => k_is)
    (case q_c__law_signs => k_is)
    (case q_k__law_signs => k_is)
    (case q_a__law_small => k_is)
    (case q_l__law_small => k_is)
    (case q_c__law_small => k_is)
    (case q_k__law_small => k_is)
    (case q_a__law_told_right => k_is)
    (case q_l__law_told_right => k_is)
    (case q_c__law_told_right => k_is)
    (case q_k__law_told_right => k_is)
    (case q_a_law => k_is)
    (case q_l_law => k_is)
    (case q_c_law => k_is)
    (case q_k_law => k_is)
    (case q_a_BadPart_init => k_is)
    (case q_i_BadPart_init => k_is)
    (case q_l_BadPart_init => k_is)
    (case q_c_BadPart_init => k_is)
    (case q_k_BadPart_init => k_is)
    (case q_a_BadBox_init => k_is)
    (case q_i_BadBox_init => k_is)
    (case q_l_BadBox_init => k_is)
    (case q_c_BadBox_init => k_is)
    (case q_k_BadBox_init => k_is)
    (case q_a_Way_init => k_is)
    (case q_i_Way_init => k_is)
    (case q_l_Way_init => k_is)
    (case q_c_Way_init => k_is)
    (case q_k_Way_init => k_is)
    (case q_a_Way_window => k_is)
    (case q_i_Way_window => k_is)
    (case q_l_Way_window => k_is)
    (case q_c_Way_window => k_is)
    (case q_k_Way_window => k_is)
    (case q_a_Way_eq => k_is)
    (case q_i_Way_eq => k_is)
    (case q_l_Way_eq => k_is)
    (case q_c_Way_eq => k_is)
    (case q_k_Way_eq => k_is)
    (case q_a_Road_init => k_is)
    (case q_i_Road_init => k_is)
    (case q_l_Road_init => k_is)
    (case q_c_Road_init => k_is)
    (case q_k_Road_init => k_is)
    (case q_a_Road_eq => k_is)
    (case q_i_Road_eq => k_is)
    (case q_l_Road_eq => k_is)
    (case q_c_Road_eq => k_is)
    (case q_k_Road_eq => k_is)
    (case q_a_Lull_init => k_is)
    (case q_i_Lull_init => k_is)
    (case q_l_Lull_init => k_is)
    (case q_c_Lull_init => k_is)
    (case q_k_Lull_init => k_is)
    (case q_a_Lull_eq => k_is)
    (case q_i_Lull_eq => k_is)
    (case q_l_Lull_eq => k_is)
    (case q_c_Lull_eq => k_is)
    (case q_k_Lull_eq => k_is)
    (case q_d_T => k_is)
    (case q_d_0 => k_is)
    (case q_n_isinstance => k_is)
    (case q_n_int => k_is)
    (case q_n_bool => k_is)
    (case q_n_list => k_is)
    (case q_n_tuple => k_is)
    (case q_n_len => k_is)
    (case q_n_range => k_is)
    (case q_n_max => k_is)
    (case q_n_min => k_is)
    (case q_n_enumerate => k_is)
    (case q_n_all => k_is)
    (case q_n_any => k_is)
    (case q_n_zip => k_is)
    (case q_n_dict => k_is)
    (case q_v_MOST_BEGIN => k_is)
    (case q_v_MOST_DELAY => k_is)
    (case q_v_MOST_BOXES => k_is)
    (case q_v_MOST_KEEP => k_is)
    (case q_v_MOST_TURN => k_is)
    (case q_v_MOST_ROWS => k_is)
    (case q_v_MOST_PARCELS => k_is)
    (case q_v_MOST_QUIET => k_is)
    (case q_v_MOST_LOST => k_is)
    (case q_v_MOST_PERIOD => k_is)
    (case q_s_hn => k_is)
    (case q_s_tk => k_is)
    (case q_pg_Way => k_is)
    (case q_hd_Way => k_is)
    (case q_po_Way => k_is)
    (case q_sa_Way => k_is)
    (case q_ha_Way => k_is)
    (case q_hm_Way => k_is)
    (case q_ne_Way => k_is)
    (case q_is_Way => k_is)
    (case q_ty_Way => k_is)
    (case q_tup_Way => k_is)
    (case q_lst_Way => k_is)
    (case q_int_Way => k_is)
    (case q_str_Way => k_is)
    (case q_mk_Way => k_is)
    (case q_kc_Way => k_is)
    (case q_na_Way_begin => k_is)
    (case q_na_Way_least => k_is)
    (case q_na_Way_most => k_is)
    (case q_na_Way_boxes => k_is)
    (case q_pg_Road => k_is)
    (case q_hd_Road => k_is)
    (case q_po_Road => k_is)
    (case q_sa_Road => k_is)
    (case q_ha_Road => k_is)
    (case q_hm_Road => k_is)
    (case q_ne_Road => k_is)
    (case q_is_Road => k_is)
    (case q_ty_Road => k_is)
    (case q_tup_Road => k_is)
    (case q_lst_Road => k_is)
    (case q_int_Road => k_is)
    (case q_str_Road => k_is)
    (case q_mk_Road => k_is)
    (case q_kc_Road => k_is)
    (case q_na_Road_way => k_is)
    (case q_na_Road_last => k_is)
    (case q_na_Road_turn => k_is)
    (case q_na_Road_losses => k_is)
    (case q_na_Road_rows => k_is)
    (case q_na_Road_quiet => k_is)
    (case q_na_Road_period => k_is)
    (case q_pg_Lull => k_is)
    (case q_hd_Lull => k_is)
    (case q_po_Lull => k_is)
    (case q_sa_Lull => k_is)
    (case q_ha_Lull => k_is)
    (case q_hm_Lull => k_is)
    (case q_ne_Lull => k_is)
    (case q_is_Lull => k_is)
    (case q_ty_Lull => k_is)
    (case q_tup_Lull => k_is)
    (case q_lst_Lull => k_is)
    (case q_int_Lull => k_is)
    (case q_str_Lull => k_is)
    (case q_mk_Lull => k_is)
    (case q_kc_Lull => k_is)
    (case q_na_Lull_delay => k_is)
    (case q_na_Lull_turn => k_is)
    (case q_na_Lull_losses => k_is)
    (case q_na_Lull_quiet => k_is)
    (case q_xBadPart_L => k_is)
    (case q_xBadPart_sa => k_is)
    (case q_xBadPart_ex => k_is)
    (case q_xBadPart_ty => k_is)
    (case q_xBadPart_kC => k_is)
    (case q_xBadPart_noA => k_is)
    (case q_xBadPart_hg => k_is)
    (case q_xBadPart_hk => k_is)
    (case q_xBadPart_hd => k_is)
    (case q_xBadPart_ha => k_is)
    (case q_xBadPart_hm => k_is)
    (case q_xBadPart_is => k_is)
    (case q_xBadPart_ss => k_is)
    (case q_xBadPart_w => k_is)
    (case q_xBadBox_L => k_is)
    (case q_xBadBox_sa => k_is)
    (case q_xBadBox_ex => k_is)
    (case q_xBadBox_ty => k_is)
    (case q_xBadBox_kC => k_is)
    (case q_xBadBox_noA => k_is)
    (case q_xBadBox_hg => k_is)
    (case q_xBadBox_hk => k_is)
    (case q_xBadBox_hd => k_is)
    (case q_xBadBox_ha => k_is)
    (case q_xBadBox_hm => k_is)
    (case q_xBadBox_is => k_is)
    (case q_xBadBox_ss => k_is)
    (case q_xBadBox_w => k_is)
    (case q_xw_i => k_is)
    (case q_xw_t => k_is)
    (case q_xw_b => k_is)
