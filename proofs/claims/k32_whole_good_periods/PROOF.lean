import PyProof.Rows.All
import Wide.All
import OpenK.AllK
import Wide.FinOn
import PyProof.EqAt
import PyProof.EqKinds
import PyProof.TupleCall
import HandS.Base
import HandS.Call
import HandS.List
import HandS.Comp
import HandS.Ends
import HandS.Words
import HandS.WordsList
import HandS.Exc
import HandS.ExcInit
import HandS.ExcIs
import HandS.OwnEq
import HandS.IsInst
import HandS.ExcOwn
import HandS.ExcField
import HandS.WordsExc
import HandS.TryOnly
import HandS.TryMany
import HandS.CallSlots
import HandS.Wide
import HandS.Codes
import KE.KTupSum
import PyProof.ListRange
import KE.GoesEnum
import HandS.Iter
import HandS.Walk
import HandS.HotCalls
import KE.KEqNest
import HandS.MakeKwOnly
import HandS.TupAny
import HandS.Strs
import HandS.Deep
import HandS.Zip
import HandS.Star
import HandS.Conv
import HandS.IterVal
import HandS.ListItems
import KE.KDictZip
import PySem.Challenge.RW_wholeline_k32_whole_good_periods
import HandS.Evl
import HandS.NoneIn
set_option Elab.async false
set_option maxRecDepth 100000
set_option maxHeartbeats 4000000
namespace PySem.W
open PySem PySem.Calls PyProof.Rows
section
variable {prog : Program} {w : World} {A : Around} {E : Value → Shared → Prop} {s : Shared} {K : Frag} {x C L f : Addr} {h₀ : Heap} {m : Str → Option Value} {ox : Obj} {od : Option Obj} {b tb : Value}
theorem objNe_K {Q : Fin → Shared → Prop} (hu : A.units < cLine) (X : K.In s.heap) (I : InstAt s.heap x ox C od)
    (hs : findIn K (.ref C) "__eq__" = some (some (.ref f))) (hf : isFn K (.ref f) = true)
    (h : wpAny (model prog w) A (call (.ref f) [.ref x, b]) (fun v s' => ∃ r, v = .bool r ∧ Q (.done (.ret (.bool (!r)))) s') E s) :
    wpAny (model prog w) A (Builtin.«object.__ne__» ⟨[.ref x, b], []⟩) Q E s := by
  obtain ⟨hp, g, d, tk, os⟩ := s
  unfold Builtin.«object.__ne__»
  repeat (first
    | with_reducible refine wpAny_cRoomFor hu ?_
    | (refine wpAny_bind (m := callSpecialIfBound? (.ref x) (Str.ofString "__eq__") [b])
        (ifBound_K X I hs hf (wpAny_mono h (fun r s' hr => by
          obtain ⟨b, rfl, hq⟩ := hr
          repeat (first | exact hq | exact wpAny_pure hq | exact wpAny_truthy_bool hq | (refine wpAny_bind (m := truthy (.bool _)) (wpAny_truthy_bool ?_)) | wp_step)) fun _ _ e => e)))
    | wp_step)
theorem cmpNe_K {Q : Value → Shared → Prop} (hu : A.units + 1 < cLine) (F : Fr h₀ L s.heap m) (X₀ : K.In h₀) (I : InstAt s.heap x ox C od) (hb : Looks (model prog w) s.heap (typeOf b) tb) (hn : notFirst K C tb = true)
    (hne : findIn K (.ref C) "__ne__" = some (some (.builtin "object.__ne__"))) (hm : mroIn K C (.type "object") = some true)
    (hs : findIn K (.ref C) "__eq__" = some (some (.ref f))) (hf : isFn K (.ref f) = true)
    (h : wpAny (model prog w) A.in1 (call (.ref f) [.ref x, b]) (fun v s' => ∃ r, v = .bool r ∧ Q (.bool (!r)) s') E s) : wpAny (model prog w) A (richCompare .NotEq (.ref x) b) Q E s := by
  have X := X₀.keeps F.keep
  have sub : Looks (model prog w) s.heap (isInstance (.ref x) (.type "object")) true := I.type.andThen (looks_mroIn X hm)
  have one : wpAny (model prog w) A (tryCompare (.ref x) "__ne__" b) (fun r s' => ∃ v, r = some v ∧ Q v s') E s := by
    unfold tryCompare
    refine wpAny_bind ?_
    simp only [callSpecialIfBound?, bindSpecialIfBound?]
    refine wpAny_holding (wpAny_bind (wpAny_bind (wpAny_bind (I.type.here ((looks_findIn X hne).here ?_)))))
    simp only [PySem.F.cmp_object.ne.bind]
    refine wpAny_bind (wpAny_askSetting (wpAny_ite ?_))
    have fin : wpAny (model prog w) A (call (.builtin "object.__ne__") ([.ref x] ++ [b]) >>= fun v => pure (some v)) (fun r s' => wpAny (model prog w) A (match r with
        | some .notImplemented | none => pure none
        | some v => pure (some v)) (fun r s' => ∃ v, r = some v ∧ Q v s') E s') E s := by
      refine wpAny_bind (wpAny_call (codeAny_call_builtin PySem.F.cmp_object.ne.plain PySem.F.cmpEntry_ne (check_slot PySem.F.cmpKind_ne PySem.F.cmpSplit_ne sub (PySem.F.cmpArgs_ne _ _)
        (objNe_K (A := A.in1) hu X I hs hf (wpAny_mono h (fun v s' hv => ?_) fun _ _ e => e)))))
      obtain ⟨r, rfl, hq⟩ := hv
      first | exact ⟨r, rfl, wpAny_pure (wpAny_pure ⟨_, rfl, hq⟩)⟩ | exact ⟨r, rfl, wpAny_pure ⟨_, rfl, hq⟩⟩
    split
    · repeat (first | exact fin | with_reducible refine wpAny_pure ?_ | with_reducible refine wpAny_bind ?_ | with_reducible refine wpAny_tryCatch ?_)
    · refine wpAny_tryCatch ?_
      repeat (first | exact fin | with_reducible refine wpAny_pure ?_ | with_reducible refine wpAny_bind ?_)
  unfold richCompare
  simp only [oneThing_ref]
  refine wpAny_holding (wpAny_bind (wpAny_cRoomFor (Nat.lt_of_succ_lt hu) ?_))
  refine wpAny_bind (I.type.here (wpAny_bind (hb.here ?_)))
  split
  · rename_i q
    have e : subIn K tb (.ref C) = some false := by
      rcases Bool.or_eq_true_iff.mp hn with e | e
      · rw [beq_iff_eq.mp e] at q; simp at q
      · exact beq_iff_eq.mp e
    refine wpAny_bind ((looks_subIn X e).here ?_)
    simp only [Bool.false_eq_true, if_false]
    refine wpAny_bind (wpAny_mono one (fun r s' z => ?_) fun _ _ e => e)
    obtain ⟨v, rfl, hq⟩ := z
    exact wpAny_pure hq
  · refine wpAny_bind (wpAny_pure ?_)
    simp only [Bool.false_eq_true, if_false]
    refine wpAny_bind (wpAny_mono one (fun r s' z => ?_) fun _ _ e => e)
    obtain ⟨v, rfl, hq⟩ := z
    exact wpAny_pure hq
end
end PySem.W

set_option Elab.async false
set_option maxRecDepth 100000
set_option maxHeartbeats 4000000
namespace L2
open PySem PySem.Spec PyProof.Rows
section
variable {X : Cx} {CX : CXT} {k : Nat} {f C : Addr} {fd : FuncData} {ps : List Str} {sp : Sp}
/-- the own method f, called at some frame below with room -/
theorem run_at {A : Around} {pins : List (Addr × Obj)} {σ : St} {H : Hp} {s : Shared} {Q : VK} {us : List Value} {vs : List V} (F : FnOk X.prog X.w X.K X.mg X.base CX k f fd ps sp) (hr : Room k A) (hA : A.frames = X.A.frames) (hb : Binds X.K fd ps []) (hx : Passes CX X E0)
    (I : Inv X pins σ H s) (r : Vals vs us) (h : sp vs H Q E0) : wpAny (model X.prog X.w) A (call (.ref f) us) (EP X pins σ Q) X.xe s := by
  have hl : us.length = ps.length := by rw [← r.length]; exact F.len _ _ _ _ h
  have e0 : Env0 X.prog X.w X.K X.mg X.base A X.stack s H := by
    have e := I.env0
    exact ⟨by rw [hA]; exact e.frames, e.mod, e.bs, e.bsz, e.funs, e.frf, e.hok, e.bare⟩
  refine wpAny_call (codeAny_mono (F.run A X.stack s H ⟨us, []⟩ us vs Q E0 hr e0 (by
    have := hb s us I.kIn (by simpa using hl)
    simpa using this) r h) fun r s' hq => ?_)
  cases r with
  | error e => exact hx pins σ H s e s' I hq
  | ok fl =>
    cases fl with
    | ret u => exact I.after hq
    | next => exact False.elim hq
    | brk => exact False.elim hq
    | cont => exact False.elim hq
/-- x == y, x an instance of the class at C, by its own ==; y anything whose type is known -/
def rEqO (K : PySem.W.Frag) (C : Addr) (sp : Sp) : R2 := fun x y H Q => ∃ a dx fs t, x = .ref a ∧ H a = some (.ins C dx fs) ∧ TyX K H y t ∧ PySem.W.notFirst K C t = true ∧ sp [x, y] H (fun v H' => ∃ b, v = .bl b ∧ Q (.bl b) H') E0
def rNeO (K : PySem.W.Frag) (C : Addr) (sp : Sp) : R2 := fun x y H Q => ∃ a dx fs t, x = .ref a ∧ H a = some (.ins C dx fs) ∧ TyX K H y t ∧ PySem.W.notFirst K C t = true ∧ sp [x, y] H (fun v H' => ∃ b, v = .bl b ∧ Q (.bl (!b)) H') E0
structure EqM (K : PySem.W.Frag) (C f : Addr) : Prop where
  eq : PySem.W.findIn K (.ref C) "__eq__" = some (some (.ref f))
  fn : PySem.W.isFn K (.ref f) = true
  ne : PySem.W.findIn K (.ref C) "__ne__" = some (some (.builtin "object.__ne__"))
  ob : PySem.W.mroIn K C (.type "object") = some true
theorem op_eqO (F : FnOk X.prog X.w X.K X.mg X.base CX k f fd ps sp) (M : EqM X.K C f) (hr : Room k X.A) (hb : Binds X.K fd ps []) (hx : Passes CX X E0) : OpR X (compareOp .Eq) (rEqO X.K C sp) := by
  intro pins s σ H x y v u Q I rx ry hq
  obtain ⟨a, dx, fs, t, rfl, ha, ty, hn, q⟩ := hq
  cases (show v = Value.ref a from rx)
  obtain ⟨P, Z, p, _⟩ := kit_of I ry ty
  obtain ⟨mA, J, _⟩ := ins_get I.hok ha
  obtain ⟨od, J, _⟩ := J.look
  obtain ⟨m, hF⟩ := I.fr
  show wpAny (model X.prog X.w) X.A (richCompare .Eq (.ref a) u) (EP X pins σ Q) X.xe s
  refine PySem.W.cmp_K (op := .Eq) (tb := t) hr.units0 hF I.ok.mod.kin J (Z.ty _ _ I.kIn p) hn M.eq M.fn ?_
  refine wpAny_mono (run_at (vs := [.ref a, y]) F hr rfl hb hx I (.cons rfl (.cons ry .nil)) q) (fun v' s' z => ?_) fun _ _ e => e
  obtain ⟨w', H', I', rv, b, rfl, q'⟩ := z
  cases rv
  exact ⟨.bl b, H', I', rfl, q'⟩
theorem op_neO (F : FnOk X.prog X.w X.K X.mg X.base CX k f fd ps sp) (M : EqM X.K C f) (hr : Room (k + 1) X.A) (hb : Binds X.K fd ps []) (hx : Passes CX X E0) : OpR X (compareOp .NotEq) (rNeO X.K C sp) := by
  intro pins s σ H x y v u Q I rx ry hq
  obtain ⟨a, dx, fs, t, rfl, ha, ty, hn, q⟩ := hq
  cases (show v = Value.ref a from rx)
  obtain ⟨P, Z, p, _⟩ := kit_of I ry ty
  obtain ⟨mA, J, _⟩ := ins_get I.hok ha
  obtain ⟨od, J, _⟩ := J.look
  obtain ⟨m, hF⟩ := I.fr
  show wpAny (model X.prog X.w) X.A (richCompare .NotEq (.ref a) u) (EP X pins σ Q) X.xe s
  refine PySem.W.cmpNe_K (tb := t) (by have := hr.units; omega) hF I.ok.mod.kin J (Z.ty _ _ I.kIn p) hn M.ne M.ob M.eq M.fn ?_
  refine wpAny_mono (run_at (vs := [.ref a, y]) F hr.in1 rfl hb hx I (.cons rfl (.cons ry .nil)) q) (fun v' s' z => ?_) fun _ _ e => e
  obtain ⟨w', H', I', rv, b, rfl, q'⟩ := z
  cases rv
  exact ⟨b, rfl, .bl (!b), H', I', rfl, q'⟩
/-- len(o), o an instance of the class at C with an own __len__ -/
def rLenO (C : Addr) (sp : Sp) : List V → Hp → VK → Prop := fun xs H Q => ∃ a dx fs, xs = [.ref a] ∧ H a = some (.ins C dx fs) ∧ sp [.ref a] H (fun v H' => ∃ n : Int, v = .int n ∧ (0 ≤ n ∧ n < 2 ^ 63) ∧ Q (.int n) H') E0
theorem call_lenO (F : FnOk X.prog X.w X.K X.mg X.base CX k f fd ps sp) (hs : PySem.W.findIn X.K (.ref C) "__len__" = some (some (.ref f))) (hf : PySem.W.isFn X.K (.ref f) = true) (hr : Room (k + 1) X.A) (hb : Binds X.K fd ps []) (hx : Passes CX X E0) :
    CallR X (.builtin "len") (rLenO C sp) := by
  intro pins s σ H xs us Q I r h
  obtain ⟨a, dx, fs, rfl, ha, q⟩ := h
  cases r with
  | cons rx rr =>
    rename_i u us'
    cases rr
    cases (show u = Value.ref a from rx)
    obtain ⟨mA, J, _⟩ := ins_get I.hok ha
    obtain ⟨od, J, _⟩ := J.look
    obtain ⟨m, hF⟩ := I.fr
    refine PySem.W.len_K hF I.ok.mod.kin J hs hf ?_
    refine wpAny_mono (run_at (vs := [.ref a]) F hr.in1 rfl hb hx I (.cons rfl .nil) q) (fun v' s' z => ?_) fun _ _ e => e
    obtain ⟨w', H', I', rv, n, rfl, hn, q'⟩ := z
    obtain ⟨t, rfl⟩ := (show ∃ t, v' = Value.int n t from rv)
    exact ⟨hn, .int n, H', I'.tok _, ⟨_, rfl⟩, q'⟩
end
end L2

set_option Elab.async false
set_option maxRecDepth 100000
set_option maxHeartbeats 4000000
namespace PySem.W
open PySem PySem.Spec PySem.Calls PyProof.Rows
section
variable {K : Frag} {C : Addr}
theorem findObj_dat {od : Option Obj} {name : Str} {a g : Value} (hc : (clsIn K C).isSome = true) (ha : findIn K (.ref C) name = some (some a)) (hg : specialIn K a "__get__" = some (some g)) (ht : takesIn K a = some true) :
    findObj K C od name = some (.bind g a) := by
  obtain ⟨cd, hc⟩ := Option.isSome_iff_exists.mp hc
  simp [findObj, hc, ha, hg, ht]
variable {prog : Program} {w : World} {A : Around} {E : Value → Shared → Prop} {s : Shared} {x D : Addr} {ox : Obj}
theorem kin_classD {od : Option Obj} {Q : Option Value → Shared → Prop} (T : L2.ExcC K D)
    (X : K.In s.heap) (I : InstAt s.heap x ox D od) (h : Q (some (.ref D)) { s with toks := s.toks + 1 }) : wpAny (model prog w) A (getAttr? (.ref x) "__class__") Q E s := by
  have hf : findObj K D od "__class__" = some (.bind (.builtin "getset_descriptor.__get__") (.builtin "object.__class__")) :=
    findObj_dat (by obtain ⟨cd, hc, _⟩ := any_some T.hd; rw [hc]; rfl) T.ha T.hn T.ht
  obtain ⟨hp, g, d, t, os⟩ := s
  have L0 := I.type (M := model prog w)
  have L1 := looks_findIn (M := model prog w) X T.hg
  have L2 := looks_findIn (M := model prog w) X T.hk
  have L3 := looks_find (M := model prog w) X I hf
  have sub : Looks (model prog w) hp (isInstance (.ref x) (.type "BaseException")) true := L0.andThen (looks_subIn X T.hs)
  have hx0 : (false && onTheHeap (Value.builtin "BaseException.__getattribute__")) = false := rfl
  have hx2 : (Value.builtin "BaseException.__getattribute__" == Value.builtin "object.__getattribute__") = false := by decide +kernel
  have hx1 : (onTheHeap (Value.ref D) && Value.builtin "BaseException.__getattribute__" == Value.builtin "object.__getattribute__") = false := by rw [hx2]; rfl
  unfold getAttr? getAttrBy? getAttrBy
  refine wpAny_bind (wpAny_mkText (wpAny_bind (wpAny_attempt (wpAny_holding (wpAny_bind (L0.at (wpAny_bind (L1.at ?_))))))))
  show wpAny _ _ (if (onTheHeap (Value.ref D) && Value.builtin "BaseException.__getattribute__" == Value.builtin "object.__getattribute__") = true then _ else _) _ _ _
  rw [hx1, if_neg Bool.false_ne_true]
  unfold getAttrByItsOwn hookBefore
  refine wpAny_bind ?_
  rw [if_pos (show onTheHeap (Value.ref D) = true from rfl)]
  refine L2.at ?_
  refine wpAny_bind (wpAny_attempt (wpAny_holding ?_))
  unfold callGetattribute
  rw [hx0, if_neg Bool.false_ne_true]
  unfold boundAndCalled
  rw [PySem.F.excAttr_ValueError.ga.bind (.ref x)]
  refine wpAny_bind (wpAny_pure ?_)
  show wpAny _ _ (call (.builtin "BaseException.__getattribute__") [.ref x, .str "__class__" t]) _ _ _
  refine wpAny_call (codeAny_call_builtin PySem.F.excAttr_ValueError.ga.plain PySem.F.entry_bexc_ga ?_)
  refine @check_slot (model prog w) _ _ ⟨hp, g, d, t + 1, os⟩ "BaseException.__getattribute__" "BaseException" "__getattribute__" (.ref x) [.str "__class__" t] [] _ (by decide +kernel) (by decide +kernel) sub (PySem.F.args_bexc_ga (.ref x) (.str "__class__" t)) ?_
  unfold Builtin.«object.__getattribute__»
  refine wpAny_bind (wpAny_of_eq (a := ((Value.ref x : Value), [Value.str "__class__" t])) (by first | rfl | (simp only [slotArgs]; rfl)) ?_)
  refine wpAny_bind (wpAny_pure (wpAny_bind (L0.at (wpAny_bind (L3.at ?_)))))
  show wpAny _ _ (holding [Value.builtin "object.__class__"] (call (.builtin "getset_descriptor.__get__") [.builtin "object.__class__", .ref x, .ref D]) >>= ret) _ _ _
  refine wpAny_bind (wpAny_holding (wpAny_call (class_get (s := ⟨hp, g, d, t + 1, os⟩) (ox := ox) (od := od) X I T.hm ?_)))
  refine wpAny_pure ?_
  show wpAny _ _ (handedOut (.ref D)) _ _ _
  rw [handedOut_of (v := .ref D) rfl]
  first
    | exact wpAny_pure (wpAny_pure h)
    | exact wpAny_pure h
    | exact wpAny_pure (wpAny_bind (wpAny_pure (wpAny_pure h)))
theorem kitx_excD (T : L2.ExcC K D) : KitX K (.ref x) (.ref D) (fun h => ∃ od, InstAt h x ox D od) where
  ty := fun _ _ _ I => by
    obtain ⟨_, I⟩ := I
    exact I.type
  it := fun M h X _ => by
    obtain ⟨cdD, hcD, _⟩ := any_some T.hd
    unfold clsIn at hcD
    split at hcD
    · rename_i c' d' cd' sl' ho
      intro A' Q' E' s' k q
      unfold isType loadHead
      exact wpAny_bind (wpAny_loadPart (k _ _ (X _ _ ho)) (wpAny_pure q))
    · cases hcD
  ne := fun h tp dd its n sl X htp => by
    obtain ⟨cdD, hcD, _⟩ := any_some T.hd
    refine Bool.eq_false_iff.mpr fun q => ?_
    have e : D = tp := Value.ref.inj (beq_iff_eq.mp q)
    subst e
    unfold clsIn at hcD
    split at hcD
    · rename_i c' d' cd' sl' ho
      have z := (X _ _ ho).symm.trans htp
      cases z
    · cases hcD
  ca := fun X I k => by
    obtain ⟨_, I⟩ := I
    exact kin_classD T X I k
end
end PySem.W
namespace L2
open PySem PySem.Spec PyProof.Rows
section
variable {X : Cx}
/-- isinstance(e, c), e the exception that the suite holds, with a dict or without -/
theorem call_isED {a D : Addr} {d : Option Addr} {oe : Obj} {pn : List (Addr × Obj)} (C : ExcC X.K D) (hz : Zc (.ref D) d oe) (hf : ∃ vs, oe.data = .fields vs) (hd : ∀ (pins : List (Addr × Obj)) (σ : St) (H : Hp) (s : Shared), Inv (X.suite a ((a, oe) :: pn)) pins σ H s → ∀ dd, d = some dd → ∃ od, s.heap.get? dd = some od) :
    CallR (X.suite a ((a, oe) :: pn)) (.builtin "isinstance") (rIsE X.K D a) := by
  intro pins s σ H xs us Q I r h
  obtain ⟨c, cv, b, rfl, hcv, e, q⟩ := h
  cases r with
  | cons rx rr =>
    cases rr with
    | cons rt rr =>
      cases rr
      cases rx
      have ec := hcv _ rt
      subst ec
      obtain ⟨hget, _⟩ := I.pin (a, oe) (List.mem_append.mpr (.inl List.mem_cons_self))
      obtain ⟨vs, hv⟩ := hf
      have J : ∃ od, PySem.W.InstAt s.heap a oe D od := by
        have hd' := hd pins σ H s I
        obtain ⟨oc, od, oda, osl⟩ := oe
        obtain ⟨h1, h2⟩ := hz
        dsimp only at h1 h2 hv
        subst h1 h2 hv
        cases od with
        | none => exact ⟨none, hget, rfl, rfl, trivial⟩
        | some dd =>
          obtain ⟨o, ho⟩ := hd' dd rfl
          exact ⟨some o, hget, rfl, rfl, ho⟩
      exact PySem.W.kia_one (PySem.W.kitx_excD C) I.kIn J e (fun z => nomatch z) fun tk => ⟨.bl b, H, I.kept (t' := tk) fun _ _ z => z, rfl, q⟩
/-- the same where the dict is tracked: the reading asks it -/
def rIsED (K : PySem.W.Frag) (D a : Addr) (cls : Value) (d : Option Addr) : List V → Hp → VK → Prop := fun xs H Q => cls = .ref D ∧ (∀ dd, d = some dd → ∃ fs, H dd = some (.xd fs)) ∧ ∃ (c : V) (cv : Value) (b : Bool), xs = [.ref a, c] ∧ (∀ u, RelV c u → u = cv) ∧ PySem.W.kitOne K (.ref D) cv = some b ∧ Q (.bl b) H
theorem call_isEX {a D : Addr} {cls : Value} {d : Option Addr} {oe : Obj} {pn : List (Addr × Obj)} (C : ExcC X.K D) (hz : Zc cls d oe) (hf : ∃ vs, oe.data = .fields vs) : CallR (X.suite a ((a, oe) :: pn)) (.builtin "isinstance") (rIsED X.K D a cls d) := by
  intro pins s σ H xs us Q I r h
  obtain ⟨ec0, hdd, c, cv, b, rfl, hcv, e, q⟩ := h
  subst ec0
  cases r with
  | cons rx rr =>
    cases rr with
    | cons rt rr =>
      cases rr
      cases rx
      have ec := hcv _ rt
      subst ec
      obtain ⟨hget, _⟩ := I.pin (a, oe) (List.mem_append.mpr (.inl List.mem_cons_self))
      obtain ⟨vs, hv⟩ := hf
      have J : ∃ od, PySem.W.InstAt s.heap a oe D od := by
        obtain ⟨oc, od, oda, osl⟩ := oe
        obtain ⟨h1, h2⟩ := hz
        dsimp only at h1 h2 hv
        subst h1 h2 hv
        cases od with
        | none => exact ⟨none, hget, rfl, rfl, trivial⟩
        | some dd =>
          obtain ⟨fs, hfs⟩ := hdd dd rfl
          obtain ⟨mA, hns, _⟩ := (show ObjOk X.prog X.w H s.heap dd (.xd fs) from I.hok dd _ hfs)
          obtain ⟨od, ho, _⟩ := lookIn_ns hns
          exact ⟨some od, hget, rfl, rfl, ho⟩
      exact PySem.W.kia_one (PySem.W.kitx_excD C) I.kIn J e (fun z => nomatch z) fun tk => ⟨.bl b, H, I.kept (t' := tk) fun _ _ z => z, rfl, q⟩
end
section
variable {X : Cx} {CX : CXT} {k : Nat} {f C : Addr} {fd : FuncData} {ps : List Str} {sp : Sp} {dvs : List V} {ds : List Value} {E : St → XK} {x m : Str} {p pos apos : Pos} {e o : Expr} {es : List Expr} {ta : TE} {t : TA}
/-- C(e, ..) where what is raised is wished for at the slots as they stand -/
def tMakeS (C : Addr) (sp : Sp) (dvs : List V) (E : St → XK) (t : TA) : TE := fun σ H Q => t σ H fun vs H1 => ∀ x dx, H1 x = none → H1 dx = none → dx ≠ x →
  sp (.ref x :: (vs ++ dvs)) (upd (upd H1 dx (.own x)) x (.ins C dx [])) (fun v H2 => v = .non ∧ Q (.ref x) H2) (fun cls d H2 => E σ cls d H2)
theorem run_makeS {pins : List (Addr × Obj)} {σ : St} {H : Hp} {s : Shared} {Q : VK} {us : List Value} {vs : List V} (M : Mk X.K C f) (F : FnOk X.prog X.w X.K X.mg X.base CX k f fd ps sp) (hr : Room (k + 1) X.A) (hb : Binds X.K fd ps ds) (hd : Vals dvs ds)
    (hx : PassesAt CX X σ (E σ)) (I : Inv X pins σ H s) (r : Vals vs us)
    (h : ∀ x dx, H x = none → H dx = none → dx ≠ x → sp (.ref x :: (vs ++ dvs)) (upd (upd H dx (.own x)) x (.ins C dx [])) (fun v H2 => v = .non ∧ Q (.ref x) H2) (E σ)) :
    wpAny (model X.prog X.w) X.A (call (.ref C) us) (EP X pins σ Q) X.xe s := by
  have hq := h (s.heap.objs.size + 1) s.heap.objs.size (I.hok.fresh (Nat.le_succ _)) (I.hok.fresh (Nat.le_refl _)) (Nat.ne_of_lt (Nat.lt_succ_self _))
  have I2 := Inv.made (C := C) I
  have r2 : Vals (V.ref (s.heap.objs.size + 1) :: (vs ++ dvs)) (Value.ref (s.heap.objs.size + 1) :: (us ++ ds)) := .cons rfl (r.append hd)
  have hl : (Value.ref (s.heap.objs.size + 1) :: us ++ ds).length = ps.length := by
    have e := r2.length
    rw [F.len _ _ _ _ hq] at e
    exact e.symm
  refine wpAny_call (make_map (f := f) I.kIn M.makes M.init (beq_iff_eq.mp M.fn) (codeAny_mono (F.run _ X.stack _ _ ⟨Value.ref (s.heap.objs.size + 1) :: us, []⟩ (Value.ref (s.heap.objs.size + 1) :: (us ++ ds)) _ _ (E σ) (hr.make C us [])
    (I2.env0.make C us []) (hb _ (Value.ref (s.heap.objs.size + 1) :: us) I2.kIn hl) r2 hq) fun r s' hq' => ?_))
  cases r with
  | error e => exact hx pins _ _ e s' I2 hq'
  | ok fl =>
    cases fl with
    | ret u =>
      obtain ⟨v, H', I3, rv, ev, q3⟩ := I2.after hq'
      subst ev
      exact ⟨rv, ⟨V.ref (s.heap.objs.size + 1), H', I3, rfl, q3⟩⟩
    | next => exact False.elim hq'
    | brk => exact False.elim hq'
    | cont => exact False.elim hq'
theorem pe_makeS (M : Mk X.K C f) (F : FnOk X.prog X.w X.K X.mg X.base CX k f fd ps sp) (hr : Room (k + 1) X.A) (hg : Gl X x) (hm : X.mg x = some (.ref C)) (hb : Binds X.K fd ps ds) (hd : Vals dvs ds) (hx : ∀ σ, PassesAt CX X σ (E σ))
    (ha : PA X (e :: es) t) (hdb : (x == ("__debug__" : Str)) = false := by decide) (he : starEach (e :: es) X.env = (false, eval e X.env) :: starEach es X.env := by rfl) (hpl : (backTo pos (starEach es X.env)).any (·.1) = false := by rfl) :
    PE X (.Call (.Name x p) (e :: es) [] pos) (tMakeS C sp dvs E t) := by
  refine ⟨fun pins s σ H Q I h => ?_⟩
  refine wpAny_Call_Name_kw (ld_glob I hg hm ?_ hdb)
  refine PySem.W.callWith_K (h₀ := X.base) I.ok.mod.kin M.kp (thn (ha.run pos pins s σ H _ I h) fun us s1 ⟨vs, H1, I1, r, q⟩ => ⟨I1.kIn, ?_⟩) he hpl
  exact run_makeS M F hr hb hd (hx σ) I1 r q
/-- o.m(e, ..) | o.m() likewise -/
def tMethSD (C : Addr) (m : Str) (sp : Sp) (dvs : List V) (E : St → XK) (ta : TE) (t : TA) : TE := fun σ H Q => ta σ H fun x H1 => ∃ a dx fs, x = .ref a ∧ H1 a = some (.ins C dx fs) ∧ fs.lookup m = none ∧
  t σ H1 fun vs H2 => sp (x :: (vs ++ dvs)) H2 Q (E σ)
theorem pe_methSD {pl : Sem Bool} (he : PE X o ta) (c : Cls X.K C) (hm : Meth X.K C m f) (F : FnOk X.prog X.w X.K X.mg X.base CX k f fd ps sp) (hr : Room k X.A) (hb : Binds X.K fd ps ds) (hd : Vals dvs ds) (hx : ∀ σ, PassesAt CX X σ (E σ)) (ha : PA X (e :: es) t)
    (hst : starEach (e :: es) X.env = (false, eval e X.env) :: starEach es X.env := by rfl) (hpl : (backTo pos (starEach es X.env)).any (·.1) = false := by rfl)
    (ht : eval (.Call (.Attribute o m apos) (e :: es) [] pos) X.env = (do
      let ov ← eval o X.env
      standAt apos.atName
      let (f, first) ← holding [ov] (getMethod ov m pl)
      callWith pos f first (backTo pos (starEach (e :: es) X.env)) (backToKw pos (keywordEach [] X.env))) := by rfl) :
    PE X (.Call (.Attribute o m apos) (e :: es) [] pos) (tMethSD C m sp dvs E ta t) := by
  refine ⟨fun pins s σ H Q I h => ?_⟩
  refine PySem.W.methodCall_KW (pl := pl) (thn (he.run pins s σ H _ I h) fun u s1 ⟨x, H1, I1, rx, a, dx, fs, ex, ea, l, q⟩ => ?_) ht
  subst ex
  obtain rfl : u = Value.ref a := rx
  refine getmeth_ok I1 ea c hm l ?_
  refine PySem.W.callWith_K (first := [.ref a]) (h₀ := X.base) I.ok.mod.kin hm.kp (thn (ha.run pos pins s1 σ H1 _ I1 q) fun us s2 ⟨vs, H2, I2, r, q2⟩ => ⟨I2.kIn, ?_⟩) hst hpl
  exact run_fnSD (us := .ref a :: us) (vs := .ref a :: vs) F hr hb hd (hx σ) I2 (.cons rfl r) q2
theorem pe_methSD0 {pl : Sem Bool} (he : PE X o ta) (c : Cls X.K C) (hm : Meth X.K C m f) (F : FnOk X.prog X.w X.K X.mg X.base CX k f fd ps sp) (hr : Room k X.A) (hb : Binds X.K fd ps ds) (hd : Vals dvs ds) (hx : ∀ σ, PassesAt CX X σ (E σ))
    (ht : eval (.Call (.Attribute o m apos) [] [] pos) X.env = (do
      let ov ← eval o X.env
      standAt apos.atName
      let (f, first) ← holding [ov] (getMethod ov m pl)
      callWith pos f first (backTo pos (starEach [] X.env)) (backToKw pos (keywordEach [] X.env))) := by rfl) :
    PE X (.Call (.Attribute o m apos) [] [] pos) (tMethSD C m sp dvs E ta tNil) := by
  refine ⟨fun pins s σ H Q I h => ?_⟩
  refine PySem.W.methodCall_KW (pl := pl) (thn (he.run pins s σ H _ I h) fun u s1 ⟨x, H1, I1, rx, a, dx, fs, ex, ea, l, q⟩ => ?_) ht
  subst ex
  obtain rfl : u = Value.ref a := rx
  refine getmeth_ok I1 ea c hm l ?_
  exact PySem.W.callWith_K0 (first := [.ref a]) I1.kIn hm.kp (run_fnSD (us := [.ref a]) (vs := [.ref a]) F hr hb hd (hx σ) I1 (.cons rfl .nil) q)
end

/-! ### own errors with one field -/
/-- what __init__ of such an error does: self.f = v -/
def spXI (C : Addr) (f : Str) : Sp := fun vs H Q _ => ∃ (a : Addr) (y : V), vs = [.ref a, y] ∧ H a = some (exo a C none) ∧ ∀ dx, H dx = none → dx ≠ a → Q .non (upd (upd H dx (exd dx [(f, y)])) a (exo a C (some dx)))
/-- all that is asked of the class x of errors at C, whose field is f -/
structure XCls (P : Program) (w : World) (K : PySem.W.Frag) (mg : Str → Option Value) (base : Heap) (x f : Str) (C : Addr) : Prop where
  ox : OexC K C
  gC : mg x = some (.ref C)
  noA : PySem.W.findIn K (.ref C) f = some none
  ec : ExcC K C
  ini : ∃ (fI : Addr) (fd : FuncData), PySem.W.findIn K (.ref C) "__init__" = some (some (.ref fI)) ∧ PySem.W.typeIn K (.ref fI) = some (.type "function") ∧ FnOk P w K mg base CX0 1 fI fd ["self", f] (spXI C f) ∧ Binds K fd ["self", f] []
theorem XCls.xf {P : Program} {w : World} {K : PySem.W.Frag} {mg : Str → Option Value} {base : Heap} {x f : Str} {C : Addr} (T : XCls P w K mg base x f C) : XfC K C := ⟨T.ec.hg, T.ec.hk, T.ec.hs, T.ec.hd⟩
section
variable {X : Cx} {C : Addr} {x f : Str} {e : Expr} {te : TE} {p pos pos2 : Pos}
theorem pmk_X (T : XCls X.prog X.w X.K X.mg X.base x f C) (hr : Room 2 X.A) (he : PE X e te) (hg : Gl X x) (hdb : (x == ("__debug__" : Str)) = false := by decide)
    (hs : starEach [e] X.env = (false, eval e X.env) :: starEach [] X.env := by rfl) (hpl : (backTo pos (starEach [] X.env)).any (·.1) = false := by rfl) :
    PMk X (.Call (.Name x p) [e] [] pos) (tMkO C (spXI C f) [] (tCons te tNil)) := by
  obtain ⟨fI, fd, i1, i2, F, b⟩ := T.ini
  exact pmk_oex (dvs := []) (ds := []) T.ox i1 i2 F hr b .nil pass0 hg T.gC (pa_cons he pa_nil hs) hdb hs hpl
/-- what is left to be shown behind the argument y -/
theorem mkX_fin {H1 : Hp} {y : V} {Q : XK} (h : ∀ d, H1 d = none → Q (.ref C) (some d) (upd H1 d (.xd [(f, y)]))) :
    [y].length ≤ 1000 ∧ ∀ a, H1 a = none → spXI C f (.ref a :: ([y] ++ [])) (upd H1 a (exo a C none))
      (fun v H2 => v = .non ∧ ∃ (d : Addr) (fs : List (Str × V)), H2 a = some (exo a C (some d)) ∧ H2 d = some (exd d fs) ∧ H1 d = none ∧ Q (.ref C) (some d) (upd (del H2 a) d (.xd fs))) (fun _ _ _ => False) := by
  refine ⟨by show 1 ≤ 1000; decide, fun a ha => ⟨a, y, rfl, upd_same, fun dx hdx hne => ⟨rfl, dx, [(f, y)], upd_same, ?_, ?_, ?_⟩⟩⟩
  · rw [upd_ne hne, upd_same]
  · rw [upd_ne hne] at hdx
    exact hdx
  · have hdx' : H1 dx = none := by
      rw [upd_ne hne] at hdx
      exact hdx
    have e : upd (del (upd (upd (upd H1 a (exo a C none)) dx (exd dx [(f, y)])) a (exo a C (some dx))) a) dx (.xd [(f, y)]) = upd H1 dx (.xd [(f, y)]) := by
      funext b
      by_cases hb : b = dx
      · rw [hb, upd_same, upd_same]
      · rw [upd_ne hb, upd_ne hb]
        by_cases hba : b = a
        · rw [hba, del_same, ha]
        · rw [del_ne hba, upd_ne hba, upd_ne hb, upd_ne hba]
    rw [e]
    exact h dx hdx'
end
end L2

set_option Elab.async false
set_option maxRecDepth 100000
set_option maxHeartbeats 4000000
namespace L2
open PySem PySem.Spec PyProof.Rows
section
variable (P : Program) (w : World) (K : PySem.W.Frag) (mg : Str → Option Value) (base : Heap)
/-- a def of the top, as the text has it -/
structure DefAt (x : Str) (st : Stmt) (ps : List Str) : Prop where
  ex : ∃ (f : Addr) (fd : FuncData), Fun K x x st f fd ∧ mg x = some (.ref f) ∧ Binds K fd ps []
/-- a def of the top that keeps its promise -/
structure Own (CX : CXT) (x : Str) (k : Nat) (ps : List Str) (sp : Sp) : Prop where
  ex : ∃ (f : Addr) (fd : FuncData), FnOk P w K mg base CX k f fd ps sp ∧ mg x = some (.ref f) ∧ PySem.W.keepIn K (.ref f) = true ∧ Binds K fd ps []
/-- a method of the class at C, as the text has it; one that keeps its promise -/
structure MethAt (C : Addr) (m qual : Str) (st : Stmt) (ps : List Str) : Prop where
  ex : ∃ (f : Addr) (fd : FuncData), Fun K m qual st f fd ∧ PySem.W.findIn K (.ref C) m = some (some (.ref f)) ∧ PySem.W.isFn K (.ref f) = true ∧ Binds K fd ps []
structure OwnM (CX : CXT) (C : Addr) (m : Str) (k : Nat) (ps : List Str) (sp : Sp) : Prop where
  ex : ∃ (f : Addr) (fd : FuncData), FnOk P w K mg base CX k f fd ps sp ∧ Meth K C m f ∧ PySem.W.isFn K (.ref f) = true ∧ Binds K fd ps []
/-- a class of the top with an own __init__ that keeps its promise -/
structure OwnC (CX : CXT) (x : Str) (C : Addr) (k : Nat) (ps : List Str) (sp : Sp) : Prop where
  ex : ∃ (f : Addr) (fd : FuncData), FnOk P w K mg base CX k f fd ps sp ∧ Mk K C f ∧ mg x = some (.ref C) ∧ Binds K fd ps []
end
section
variable {P : Program} {w : World} {K : PySem.W.Frag} {mg : Str → Option Value} {base : Heap} {CX : CXT} {x m qual : Str} {k : Nat} {ps : List Str} {sp : Sp} {st : Stmt} {C : Addr}
theorem DefAt.own (D : DefAt K mg x st ps) (h : ∀ f fd, Fun K x x st f fd → FnOk P w K mg base CX k f fd ps sp) : Own P w K mg base CX x k ps sp := by
  obtain ⟨f, fd, F, hm, hb⟩ := D.ex
  exact ⟨f, fd, h f fd F, hm, F.kp, hb⟩
theorem MethAt.own (D : MethAt K C m qual st ps) (h : ∀ f fd, Fun K m qual st f fd → FnOk P w K mg base CX k f fd ps sp) : OwnM P w K mg base CX C m k ps sp := by
  obtain ⟨f, fd, F, hm, hi, hb⟩ := D.ex
  exact ⟨f, fd, h f fd F, ⟨hm, hi, F.kp⟩, hi, hb⟩
theorem MethAt.cls (D : MethAt K C "__init__" qual st ps) (h : ∀ f fd, Fun K "__init__" qual st f fd → FnOk P w K mg base CX k f fd ps sp) (m1 : PySem.W.makesIn K C = true) (m2 : PySem.W.keepIn K (.ref C) = true) (m3 : mg x = some (.ref C)) :
    OwnC P w K mg base CX x C k ps sp := by
  obtain ⟨f, fd, F, hm, hi, hb⟩ := D.ex
  exact ⟨f, fd, h f fd F, ⟨m1, hm, hi, m2⟩, m3, hb⟩
end
section
variable {X : Cx} {CX : CXT} {x m : Str} {k : Nat} {ps : List Str} {sp : Sp} {e o : Expr} {es : List Expr} {t : TA} {ta : TE} {p pos apos : Pos} {C : Addr}
theorem pe_own (O : Own X.prog X.w X.K X.mg X.base CX x k ps sp) (hr : Room k X.A) (hx : Passes CX X E0) (ha : PA X (e :: es) t) (hg : Gl X x := by rfl) (hdb : (x == ("__debug__" : Str)) = false := by decide)
    (he : starEach (e :: es) X.env = (false, eval e X.env) :: starEach es X.env := by rfl) (hpl : (backTo pos (starEach es X.env)).any (·.1) = false := by rfl) : PE X (.Call (.Name x p) (e :: es) [] pos) (tCall sp [] E0 t) := by
  obtain ⟨f, fd, F, hm, hk, hb⟩ := O.ex
  exact pe_call F hr hg hm hk hb .nil hx ha hdb he hpl
theorem pe_own0 (O : Own X.prog X.w X.K X.mg X.base CX x k ps sp) (hr : Room k X.A) (hx : Passes CX X E0) (hg : Gl X x := by rfl) (hdb : (x == ("__debug__" : Str)) = false := by decide) : PE X (.Call (.Name x p) [] [] pos) (tCall sp [] E0 tNil) := by
  obtain ⟨f, fd, F, hm, hk, hb⟩ := O.ex
  exact pe_call0 F hr hg hm hk hb .nil hx hdb
/-- one that may raise; W is wished for what it raises -/
theorem pe_ownS {W : WX} (O : Own X.prog X.w X.K X.mg X.base (L2.CX X.prog X.w) x k ps sp) (hr : Room k X.A) (tk : Takes X W) (ha : PA X (e :: es) t) (hg : Gl X x := by rfl) (hdb : (x == ("__debug__" : Str)) = false := by decide)
    (he : starEach (e :: es) X.env = (false, eval e X.env) :: starEach es X.env := by rfl) (hpl : (backTo pos (starEach es X.env)).any (·.1) = false := by rfl) : PE X (.Call (.Name x p) (e :: es) [] pos) (tCallS sp (WE W) t) := by
  obtain ⟨f, fd, F, hm, hk, hb⟩ := O.ex
  exact pe_callS F hr hg hm hk hb (fun σ => passAt tk σ) ha hdb he hpl
theorem pe_new (O : OwnC X.prog X.w X.K X.mg X.base CX x C k ps sp) (hr : Room (k + 1) X.A) (hx : Passes CX X E0) (ha : PA X (e :: es) t) (hg : Gl X x := by rfl) (hdb : (x == ("__debug__" : Str)) = false := by decide)
    (he : starEach (e :: es) X.env = (false, eval e X.env) :: starEach es X.env := by rfl) (hpl : (backTo pos (starEach es X.env)).any (·.1) = false := by rfl) : PE X (.Call (.Name x p) (e :: es) [] pos) (tMake C sp [] E0 t) := by
  obtain ⟨f, fd, F, M, hm, hb⟩ := O.ex
  exact pe_make M F hr hg hm hb .nil hx ha hdb he hpl
theorem pe_newS {W : WX} (O : OwnC X.prog X.w X.K X.mg X.base (L2.CX X.prog X.w) x C k ps sp) (hr : Room (k + 1) X.A) (tk : Takes X W) (ha : PA X (e :: es) t) (hg : Gl X x := by rfl) (hdb : (x == ("__debug__" : Str)) = false := by decide)
    (he : starEach (e :: es) X.env = (false, eval e X.env) :: starEach es X.env := by rfl) (hpl : (backTo pos (starEach es X.env)).any (·.1) = false := by rfl) : PE X (.Call (.Name x p) (e :: es) [] pos) (tMakeS C sp [] (WE W) t) := by
  obtain ⟨f, fd, F, M, hm, hb⟩ := O.ex
  exact pe_makeS M F hr hg hm hb .nil (fun σ => passAt tk σ) ha hdb he hpl
theorem pe_gint {n : Int} (hm : ∃ t, X.mg x = some (.int n t)) (hg : Gl X x := by rfl) (hd : (x == ("__debug__" : Str)) = false := by decide) : PE X (.Name x pos) (tC (.int n)) := by
  obtain ⟨t, hm⟩ := hm
  exact pe_glob hg hm ⟨t, rfl⟩ hd
theorem pe_gcls (hm : X.mg x = some (.ref C)) (hg : Gl X x := by rfl) (hd : (x == ("__debug__" : Str)) = false := by decide) : PE X (.Name x pos) (tC (.ref C)) := pe_glob hg hm rfl hd
end
/-! ### ==, != by own methods, len -/
section
variable {X : Cx} {CX : CXT} {k : Nat} {C : Addr} {ps : List Str} {sp : Sp}
structure NeM (K : PySem.W.Frag) (C : Addr) : Prop where
  ne : PySem.W.findIn K (.ref C) "__ne__" = some (some (.builtin "object.__ne__"))
  ob : PySem.W.mroIn K C (.type "object") = some true
theorem eqO (O : OwnM X.prog X.w X.K X.mg X.base CX C "__eq__" k ps sp) (N : NeM X.K C) (hr : Room k X.A) (hx : Passes CX X E0) : OpR X (compareOp .Eq) (rEqO X.K C sp) := by
  obtain ⟨f, fd, F, M, hi, hb⟩ := O.ex
  exact op_eqO F ⟨M.at_, hi, N.ne, N.ob⟩ hr hb hx
theorem neO (O : OwnM X.prog X.w X.K X.mg X.base CX C "__eq__" k ps sp) (N : NeM X.K C) (hr : Room (k + 1) X.A) (hx : Passes CX X E0) : OpR X (compareOp .NotEq) (rNeO X.K C sp) := by
  obtain ⟨f, fd, F, M, hi, hb⟩ := O.ex
  exact op_neO F ⟨M.at_, hi, N.ne, N.ob⟩ hr hb hx
theorem lenO (O : OwnM X.prog X.w X.K X.mg X.base CX C "__len__" k ps sp) (hr : Room (k + 1) X.A) (hx : Passes CX X E0) : CallR X (.builtin "len") (rLenO C sp) := by
  obtain ⟨f, fd, F, M, hi, hb⟩ := O.ex
  exact call_lenO F M.at_ hi hr hb hx
end
end L2

set_option Elab.async false
set_option maxRecDepth 100000
set_option maxHeartbeats 4000000
/-! kinds of plain values; their isinstance -/
namespace L2
open PySem PySem.Spec PyProof.Rows
inductive Knd | int | bool | none | str | list | tuple
  deriving DecidableEq
def Knd.name : Knd → String
  | .int => "int" | .bool => "bool" | .none => "NoneType" | .str => "str" | .list => "list" | .tuple => "tuple"
def KndOf (H : Hp) (v : V) : Knd → Prop
  | .int => ∃ n, v = .int n
  | .bool => ∃ b, v = .bl b
  | .none => v = .non
  | .str => ∃ s, v = .str s
  | .list => ∃ a xs, v = .ref a ∧ H a = some (.lst xs)
  | .tuple => ∃ a xs, v = .ref a ∧ H a = some (.tup xs)
def Knd.isInt : Knd → Bool | .int => true | .bool => true | _ => false
def Knd.isBool : Knd → Bool | .bool => true | _ => false
def Knd.isSeq : Knd → Bool | .list => true | .tuple => true | _ => false
def Knd.isTup : Knd → Bool | .tuple => true | _ => false
def Knd.isList : Knd → Bool | .list => true | _ => false
def Knd.isStr : Knd → Bool | .str => true | _ => false
section
variable {K : PySem.W.Frag} {H : Hp} {v : V} {k : Knd}
theorem knd_ty (h : KndOf H v k) : TyX K H v (.type k.name) := by
  cases k with
  | int => obtain ⟨n, rfl⟩ := h; exact .base (.int n)
  | bool => obtain ⟨n, rfl⟩ := h; exact .base (.bl n)
  | none => cases h; exact .base .non
  | str => obtain ⟨n, rfl⟩ := h; exact .base (.str n)
  | list => obtain ⟨a, xs, rfl, e⟩ := h; exact .base (.lst e)
  | tuple => obtain ⟨a, xs, rfl, e⟩ := h; exact .base (.tup e)
theorem knd_int : PySem.W.kitOne K (.type k.name) (.type "int") = some k.isInt := by cases k <;> exact kit_ty (by decide +kernel)
theorem knd_bool : PySem.W.kitOne K (.type k.name) (.type "bool") = some k.isBool := by cases k <;> exact kit_ty (by decide +kernel)
theorem knd_tup : PySem.W.kitOne K (.type k.name) (.type "tuple") = some k.isTup := by cases k <;> exact kit_ty (by decide +kernel)
theorem knd_list : PySem.W.kitOne K (.type k.name) (.type "list") = some k.isList := by cases k <;> exact kit_ty (by decide +kernel)
theorem knd_str : PySem.W.kitOne K (.type k.name) (.type "str") = some k.isStr := by cases k <;> exact kit_ty (by decide +kernel)
theorem knd_seq : PySem.W.kitAny K (.type k.name) [.type "list", .type "tuple"] = some k.isSeq := by
  cases k
  case list => exact kitAny_cons knd_list (by intro h; cases h) (fun _ => rfl)
  case tuple => exact kitAny_cons knd_list (fun _ => kitAny_cons knd_tup (by intro h; cases h) (fun _ => rfl)) (by intro h; cases h)
  all_goals exact kitAny_cons knd_list (fun _ => kitAny_cons knd_tup (fun _ => kitAny_nil) (by intro h; cases h)) (by intro h; cases h)
theorem KndOf.ext {H' : Hp} (h : KndOf H v k) (e : Ext H H') : KndOf H' v k := by
  cases k with
  | list => obtain ⟨a, xs, r, q⟩ := h; exact ⟨a, xs, r, e _ _ q⟩
  | tuple => obtain ⟨a, xs, r, q⟩ := h; exact ⟨a, xs, r, e _ _ q⟩
  | _ => exact h
theorem ki (n : Int) : KndOf H (.int n) .int := ⟨n, rfl⟩
theorem kb (n : Bool) : KndOf H (.bl n) .bool := ⟨n, rfl⟩
theorem kn : KndOf H .non .none := rfl
theorem ks (n : Str) : KndOf H (.str n) .str := ⟨n, rfl⟩
end
/-- a value that is an int from a to b -/
def betw (v : V) (a b : Int) : Bool := match v with
  | .int n => decide (a ≤ n) && decide (n ≤ b)
  | _ => false
theorem betw_int {n a b : Int} : betw (.int n) a b = (decide (a ≤ n) && decide (n ≤ b)) := rfl
theorem betw_not {H : Hp} {v : V} {k : Knd} {a b : Int} (h : KndOf H v k) (hk : (k.isInt && !k.isBool) = false) : betw v a b = false := by
  cases k with
  | int => cases hk
  | bool => obtain ⟨n, rfl⟩ := h; rfl
  | none => cases h; rfl
  | str => obtain ⟨n, rfl⟩ := h; rfl
  | list => obtain ⟨n, xs, rfl, _⟩ := h; rfl
  | tuple => obtain ⟨n, xs, rfl, _⟩ := h; rfl
theorem knd_yes {k : Knd} (h : (k.isInt && !k.isBool) = true) : k = .int := by cases k <;> first | rfl | cases h
/-! ### isinstance, read -/
section
variable {K : PySem.W.Frag} {σ : St} {H : Hp} {v : V} {k : Knd} {Q : VK} {te : TE}
theorem v_isI (hk : KndOf H v k) {b : Bool} {c : String} (e : PySem.W.kitOne K (.type k.name) (.type c) = some b) (q : Q (.bl b) H) : rIsi K [v, .ty c] H Q :=
  ⟨v, .ty c, .type k.name, .type c, b, rfl, .ty c, knd_ty hk, e, q⟩
end
end L2

set_option Elab.async false
set_option maxRecDepth 100000
set_option maxHeartbeats 4000000
namespace L2
open PySem PySem.Spec PyProof.Rows
section
variable {K : PySem.W.Frag} {C : Addr}
theorem no_ref (l : List String) : (l.map Value.type).contains (Value.ref C) = false := by
  induction l with
  | nil => rfl
  | cons a l ih =>
    rw [List.map_cons, List.contains_cons, ih]
    rfl
theorem sub_ty_ref {T : String} (h : (fastFind? T).isSome = true) : PySem.W.subIn K (.type T) (.ref C) = some false := by
  obtain ⟨r, hr⟩ := Option.isSome_iff_exists.mp h
  show (fastBuiltinMro T).map (·.contains (Value.ref C)) = some false
  unfold fastBuiltinMro
  rw [hr]
  show some ((r.mro.map Value.type).contains (Value.ref C)) = some false
  rw [no_ref]
theorem knd_find (k : Knd) : (fastFind? k.name).isSome = true := by cases k <;> decide +kernel
/-- all that is asked of an own plain class x at C -/
structure ClsX (K : PySem.W.Frag) (mg : Str → Option Value) (x : Str) (C : Addr) : Prop where
  gC : mg x = some (.ref C)
  cl : Cls K C
  ha : PySem.W.findIn K (.ref C) "__class__" = some (some (.builtin "object.__class__"))
  hn : PySem.W.specialIn K (.builtin "object.__class__") "__get__" = some (some (.builtin "getset_descriptor.__get__"))
  htk : PySem.W.takesIn K (.builtin "object.__class__") = some true
  hm : PySem.W.mroIn K C (.type "object") = some true
  ne : PySem.W.findIn K (.ref C) "__ne__" = some (some (.builtin "object.__ne__"))
  is : PySem.W.isClsIn K C = true
  ty : PySem.W.typeIn K (.ref C) = some (.type "type")
  tup : PySem.W.subIn K (.ref C) (.type "tuple") = some false
  lst : PySem.W.subIn K (.ref C) (.type "list") = some false
  int : PySem.W.subIn K (.ref C) (.type "int") = some false
  str : PySem.W.subIn K (.ref C) (.type "str") = some false
variable {mg : Str → Option Value} {x : Str}
theorem ClsX.neM (T : ClsX K mg x C) : NeM K C := ⟨T.ne, T.hm⟩
theorem ClsX.tyOf (T : ClsX K mg x C) {H : Hp} {a dx : Addr} {fs : List (Str × V)} (e : H a = some (.ins C dx fs)) : TyX K H (.ref a) (.ref C) := .base (.ins e T.cl T.ha T.hn T.htk T.hm)
theorem ClsX.me (_ : ClsX K mg x C) : PySem.W.kitOne K (.ref C) (.ref C) = some true := if_pos (beq_self_eq_true _)
theorem ClsX.nfMe (_ : ClsX K mg x C) : PySem.W.notFirst K C (.ref C) = true := by
  show (Value.ref C == Value.ref C || _) = true
  rw [beq_self_eq_true]
  rfl
theorem ClsX.kitB (T : ClsX K mg x C) {t : Value} {b : Bool} (h : PySem.W.subIn K t (.ref C) = some b) (hne : (t == .ref C) = false) : PySem.W.kitOne K t (.ref C) = some b := by
  have e : ((PySem.W.clsIn K C).isSome && PySem.W.typeIn K (.ref C) == some (.type "type")) = true := by
    have h1 : (PySem.W.clsIn K C).isSome = true := T.is
    rw [h1, T.ty]
    rfl
  show (if (t == Value.ref C) = true then some true else if ((PySem.W.clsIn K C).isSome && PySem.W.typeIn K (.ref C) == some (.type "type")) = true then PySem.W.subIn K t (.ref C) else none) = some b
  rw [hne, if_neg Bool.false_ne_true, if_pos e]
  exact h
theorem ClsX.kitK (T : ClsX K mg x C) (k : Knd) : PySem.W.kitOne K (.type k.name) (.ref C) = some false := T.kitB (sub_ty_ref (knd_find k)) rfl
theorem ClsX.nfK (_ : ClsX K mg x C) (k : Knd) : PySem.W.notFirst K C (.type k.name) = true := by
  show (Value.type k.name == Value.ref C || PySem.W.subIn K (.type k.name) (.ref C) == some false) = true
  rw [sub_ty_ref (knd_find k)]
  exact Bool.or_eq_true_iff.mpr (.inr (by decide))
theorem kit_meta {T : String} {b : Bool} (h : PySem.W.subIn K (.ref C) (.type T) = some b) (hm : PySem.W.kitMeta T = true) : PySem.W.kitOne K (.ref C) (.type T) = some b := by
  show (if (Value.ref C == Value.type T) = true then some true else if PySem.W.kitMeta T = true then PySem.W.subIn K (.ref C) (.type T) else none) = some b
  rw [show (Value.ref C == Value.type T) = false from rfl, if_neg Bool.false_ne_true, if_pos hm]
  exact h
theorem ClsX.kTup (T : ClsX K mg x C) : PySem.W.kitOne K (.ref C) (.type "tuple") = some false := kit_meta T.tup (by decide +kernel)
theorem ClsX.kInt (T : ClsX K mg x C) : PySem.W.kitOne K (.ref C) (.type "int") = some false := kit_meta T.int (by decide +kernel)
theorem ClsX.kLst (T : ClsX K mg x C) : PySem.W.kitOne K (.ref C) (.type "list") = some false := kit_meta T.lst (by decide +kernel)
theorem ClsX.kStr (T : ClsX K mg x C) : PySem.W.kitOne K (.ref C) (.type "str") = some false := kit_meta T.str (by decide +kernel)
end
/-! ### an own error's class, from what the top has written -/
section
variable {P : Program} {w : World} {K : PySem.W.Frag} {mg : Str → Option Value} {base : Heap} {x f : Str} {C : Addr}
/-- what k_is finds of the class -/
structure XAt (K : PySem.W.Frag) (mg : Str → Option Value) (x f : Str) (C : Addr) (st : Stmt) (qual : Str) : Prop where
  ox : OexC K C
  gC : mg x = some (.ref C)
  noA : PySem.W.findIn K (.ref C) f = some none
  ec : ExcC K C
  tI : ∃ fI, PySem.W.findIn K (.ref C) "__init__" = some (some (.ref fI)) ∧ PySem.W.typeIn K (.ref fI) = some (.type "function") ∧ ∃ fd, Fun K "__init__" qual st fI fd ∧ Binds K fd ["self", f] []
theorem XAt.cls {st : Stmt} {qual : Str} (T : XAt K mg x f C st qual) (h : ∀ fI fd, Fun K "__init__" qual st fI fd → FnOk P w K mg base CX0 1 fI fd ["self", f] (spXI C f)) : XCls P w K mg base x f C := by
  obtain ⟨fI, i1, i2, fd, F, b⟩ := T.tI
  exact ⟨T.ox, T.gC, T.noA, T.ec, fI, fd, i1, i2, h fI fd F, b⟩
end
/-! ### fields -/
section
theorem lk_put {f g : Str} {v : V} {fs : List (Str × V)} : List.lookup g ((f, v) :: fs) = if (g == f) = true then some v else List.lookup g fs := by
  simp only [List.lookup]
  split
  · rename_i h; rw [h, if_pos rfl]
  · rename_i h; rw [h, if_neg Bool.false_ne_true]
end
end L2

set_option Elab.async false
set_option maxRecDepth 100000
set_option maxHeartbeats 4000000
/-! plain data: lists and tuples of flat values, compared -/
namespace L2
open PySem PySem.Spec PyProof.Rows
def pd : V → PyData
  | .int i => .int i
  | .bl b => .bool b
  | .str s => .str s
  | _ => .none
/-- flat, its text (if it is one) within the model's signs -/
def Fl : V → Prop
  | .int _ => True
  | .bl _ => True
  | .non => True
  | .str s => PySem.PyData.canLay0 (.str s) = true
  | _ => False
section
variable {K : PySem.W.Frag} {H : Hp} {v u : V}
theorem dp_fl (h : Fl v) : Dp K H v (pd v) := by
  cases v <;> first | exact .int _ | exact .bl _ | exact .str _ | exact .non | exact h.elim
theorem dp_all : ∀ {vs : List V}, (∀ v ∈ vs, Fl v) → DpAll K H vs (vs.map pd)
  | [], _ => .nil
  | v :: vs, h => .cons (dp_fl (h v List.mem_cons_self)) (dp_all fun u hu => h u (List.mem_cons_of_mem _ hu))
theorem lay_fl (h : Fl v) : (pd v).canLay0 = true := by
  cases v <;> first | rfl | exact h | exact h.elim
theorem dep_fl : (pd v).depth = 0 := by cases v <;> rfl
theorem lay_all : ∀ {vs : List V}, (∀ v ∈ vs, Fl v) → PyData.canLayAll0 (vs.map pd) = true ∧ PyData.depthAll (vs.map pd) = 0
  | [], _ => ⟨rfl, rfl⟩
  | v :: vs, h => by
    obtain ⟨a, b⟩ := lay_all (vs := vs) fun u hu => h u (List.mem_cons_of_mem _ hu)
    constructor
    · show ((pd v).canLay0 && PyData.canLayAll0 (vs.map pd)) = true
      rw [lay_fl (h v List.mem_cons_self), a]
      rfl
    · show max (pd v).depth (PyData.depthAll (vs.map pd)) = 0
      rw [dep_fl, b]
      rfl
theorem shp_fl (h : Fl v) : SeqAt.shaped (pd v) = true := by
  show ((pd v).canLay0 && decide ((pd v).depth ≤ 64)) = true
  rw [lay_fl h, dep_fl]
  rfl
theorem shp_tup {vs : List V} (h : ∀ v ∈ vs, Fl v) : SeqAt.shaped (.tuple (vs.map pd)) = true := by
  obtain ⟨a, b⟩ := lay_all h
  show (PyData.canLayAll0 (vs.map pd) && decide (PyData.depthAll (vs.map pd) + 1 ≤ 64)) = true
  rw [a, b]
  rfl
theorem shp_lst {vs : List V} (h : ∀ v ∈ vs, Fl v) : SeqAt.shaped (.list (vs.map pd)) = true := by
  obtain ⟨a, b⟩ := lay_all h
  show (PyData.canLayAll0 (vs.map pd) && decide (PyData.depthAll (vs.map pd) + 1 ≤ 64)) = true
  rw [a, b]
  rfl
theorem fl_int (n : Int) : Fl (.int n) := trivial
theorem fl_ints {ns : List Int} : ∀ v ∈ ns.map V.int, Fl v := fun v hv => by
  obtain ⟨n, _, rfl⟩ := List.mem_map.mp hv
  trivial
theorem eqv_ints : ∀ (ns ms : List Int), PyData.eqvAll ((ns.map V.int).map pd) ((ms.map V.int).map pd) = decide (ns = ms)
  | [], [] => rfl
  | [], _ :: _ => rfl
  | _ :: _, [] => rfl
  | n :: ns, m :: ms => by
    show ((n == m) && PyData.eqvAll ((ns.map V.int).map pd) ((ms.map V.int).map pd)) = decide (n :: ns = m :: ms)
    rw [eqv_ints ns ms, Bool.eq_iff_iff]
    simp
/-- the same values are equal data -/
theorem eqv_same : ∀ {vs : List V}, (∀ v ∈ vs, Fl v) → PyData.eqvAll (vs.map pd) (vs.map pd) = true
  | [], _ => rfl
  | v :: vs, h => by
    show (PyData.eqv (pd v) (pd v) && PyData.eqvAll (vs.map pd) (vs.map pd)) = true
    rw [eqv_same (vs := vs) fun u hu => h u (List.mem_cons_of_mem _ hu), Bool.and_true]
    cases v <;> first | rfl | (show (_ == _) = true; exact beq_self_eq_true _)
/-- two tuples compared (op_eqD, op_neD): what is left -/
theorem eqD_tup {p q : Addr} {vs us : List V} {Q : VK} (hp : SqT K H p vs) (hq : SqT K H q us) (fv : ∀ v ∈ vs, Fl v) (fu : ∀ v ∈ us, Fl v) (h : Q (.bl (PyData.eqvAll (vs.map pd) (us.map pd))) H) : rEqD K (.ref p) (.ref q) H Q :=
  ⟨_, _, .tup hp (dp_all fv), .tup hq (dp_all fu), shp_tup fv, shp_tup fu, h⟩
theorem neD_tup {p q : Addr} {vs us : List V} {Q : VK} (hp : SqT K H p vs) (hq : SqT K H q us) (fv : ∀ v ∈ vs, Fl v) (fu : ∀ v ∈ us, Fl v) (h : Q (.bl (!PyData.eqvAll (vs.map pd) (us.map pd))) H) : rNeD K (.ref p) (.ref q) H Q :=
  ⟨_, _, .tup hp (dp_all fv), .tup hq (dp_all fu), shp_tup fv, shp_tup fu, h⟩
theorem eqD_lst {p q : Addr} {vs us : List V} {Q : VK} (hp : SqL K H p vs) (hq : SqL K H q us) (fv : ∀ v ∈ vs, Fl v) (fu : ∀ v ∈ us, Fl v) (h : Q (.bl (PyData.eqvAll (vs.map pd) (us.map pd))) H) : rEqD K (.ref p) (.ref q) H Q :=
  ⟨_, _, .lst hp (dp_all fv), .lst hq (dp_all fu), shp_lst fv, shp_lst fu, h⟩
theorem neD_lst {p q : Addr} {vs us : List V} {Q : VK} (hp : SqL K H p vs) (hq : SqL K H q us) (fv : ∀ v ∈ vs, Fl v) (fu : ∀ v ∈ us, Fl v) (h : Q (.bl (!PyData.eqvAll (vs.map pd) (us.map pd))) H) : rNeD K (.ref p) (.ref q) H Q :=
  ⟨_, _, .lst hp (dp_all fv), .lst hq (dp_all fu), shp_lst fv, shp_lst fu, h⟩
end
end L2

set_option Elab.async false
set_option maxRecDepth 100000
set_option maxHeartbeats 4000000
namespace L2
open PySem PySem.Spec PyProof.Rows
section
variable {X : Cx}
/-- range(j), kept -/
theorem cr_range1 : CallR X (.type "range") (fun vs H Q => ∃ j, vs = [V.int j] ∧ ∀ p, H p = none → Q (.ref p) (upd H p (.rng 0 j))) := by
  intro pins s σ H vs us Q I r h
  obtain ⟨j, rfl, q⟩ := h
  obtain ⟨u1, rfl, rj⟩ := vals1 r
  obtain ⟨t, rfl⟩ := rj
  refine call_range_1 ⟨.ref s.heap.objs.size, upd H s.heap.objs.size (.rng 0 j), I.laid (t' := s.toks + 1 + 1) (fun b o e => Heap.get?_push_of_some _ e) (Nat.le_refl _) ?_, rfl, q _ (I.hok.fresh (Nat.le_refl _))⟩
  exact ⟨s.toks, t, s.toks + 1, Heap.get?_push_size _ rfl⟩
/-- len of a range -/
theorem call_lenR : CallR X (.builtin "len") (fun xs H Q => ∃ a lo hi, xs = [.ref a] ∧ H a = some (.rng lo hi) ∧ (hi - lo).toNat < 2 ^ 62 ∧ Q (.int ((hi - lo).toNat : Int)) H) := by
  intro pins s σ H xs us Q I r h
  obtain ⟨a, lo, hi, rfl, ha, hz, q⟩ := h
  rw [Vals.ref1 r]
  obtain ⟨t, u, v, ho⟩ := I.hok a _ ha
  exact call_len_range (n := (hi - lo).toNat) ho (rangeSize_nat lo hi) (by omega) ⟨.int ((hi - lo).toNat : Int), H, I.tok _, ⟨_, rfl⟩, q⟩
/-- sum of a tuple of ints -/
def rSumT (K : PySem.W.Frag) : List V → Hp → VK → Prop := fun vs H Q => ∃ (a : Addr) (ns : List Int), vs = [V.ref a] ∧ SqT K H a (ns.map V.int) ∧ Q (.int ns.sum) H
theorem cr_sumT (hc : X.calm = true) : CallR X (.builtin "sum") (rSumT X.K) := by
  intro pins s σ H vs us Q I r h
  obtain ⟨a, ns, rfl, hs, q⟩ := h
  obtain ⟨its, rv, hl, _⟩ := I.tuple hs
  rw [Vals.ref1 r]
  have hi := rv.ints
  obtain ⟨xs, e⟩ := hi.allInts.items
  have hn : numsOf (intItems xs).toList = ns := by rw [← e]; exact hi.numsOf
  rw [nums_intItems] at hn
  rw [e] at hl
  refine PySem.W.ktm_sumG (I.ok.hd hc) hl fun h' tk t' hk => ?_
  rw [preSum_eq, List.take_of_length_le (by simp), hn]
  exact ⟨.int ns.sum, H, I.kept hk, ⟨_, rfl⟩, q⟩
end
end L2

set_option Elab.async false
set_option maxRecDepth 100000
set_option maxHeartbeats 4000000
namespace L2
open PySem PySem.Spec PyProof.Rows
/-- a list or tuple at p of the items xs -/
def Sq (H : Hp) (p : Addr) (xs : List V) : Prop := H p = some (.lst xs) ∨ H p = some (.tup xs)
section
variable {K : PySem.W.Frag} {H H' : Hp} {p : Addr} {xs : List V}
theorem Sq.k (h : Sq H p xs) : ∃ k, KndOf H (.ref p) k ∧ k.isSeq = true := by
  rcases h with h | h
  · exact ⟨.list, ⟨p, xs, rfl, h⟩, rfl⟩
  · exact ⟨.tuple, ⟨p, xs, rfl, h⟩, rfl⟩
theorem Sq.ext (h : Sq H p xs) (e : Ext H H') : Sq H' p xs := h.imp (e _ _) (e _ _)
theorem Sq.l (h : Sq H p xs) : SqL K H p xs ∨ SqT K H p xs := h.imp SqL.of SqT.of
theorem ext_mut {D : Addr} {o : HO} (e : Ext H H') (h : H D = none) : Ext H (upd H' D o) := fun a u ha => by
  rw [upd_ne (ne_of_none ha h)]
  exact e a u ha
theorem ext_none {D : Addr} (e : Ext H H') (h : H' D = none) : H D = none := by
  cases h1 : H D with
  | none => rfl
  | some o =>
    rw [e D o h1] at h
    cases h
end
section
variable {X : Cx} {tg : Expr}
/-- a list or a tuple is walked -/
def iSq (K : PySem.W.Frag) (tl : TE) : TI := fun σ H R => tl σ H fun x H1 => ∃ a, x = .ref a ∧ (((∃ xs, SqL K H1 a xs) ∧ R (Itl K a) H1) ∨ ((∃ xs, SqT K H1 a xs) ∧ R (Itt K a) H1))
theorem pi_sq {l : Expr} {tl : TE} (hl : PE X l tl) : PI X tg l (iSq X.K tl) := by
  refine ⟨fun pins s σ H R I h => ?_⟩
  refine thn (hl.run pins s σ H _ I h) fun v s1 ⟨x, H1, I1, r1, q1⟩ => ?_
  obtain ⟨a, e, q1⟩ := q1
  subst e
  cases r1
  rcases q1 with ⟨⟨xs, hq⟩, q⟩ | ⟨⟨xs, hq⟩, q⟩
  · obtain ⟨its, rv, p, hz⟩ := I1.list hq
    refine wpAny_pyIter_list p.isList ?_
    refine ⟨s1.heap.objs.size, [s1.heap.objs.size], _, _, H1, rfl, I1.kept (t' := s1.toks) fun b o e => Heap.get?_push_of_some _ e, turn_list a _, ⟨_, Heap.get?_push_size _ rfl, rfl, rfl⟩, fun b hb => ?_, q⟩
    have e : b = s1.heap.objs.size := by simpa using hb
    subst e
    exact I1.fpOk (Nat.le_refl _) (I1.hok.fresh (Nat.le_refl _))
  · obtain ⟨its, rv, p, hz⟩ := I1.tuple hq
    refine wpAny_pyIter_tuple (show s1.heap.IsTuple a its.toArray from p) ?_
    refine ⟨s1.heap.objs.size, [s1.heap.objs.size], _, _, H1, rfl, I1.kept (t' := s1.toks) fun b o e => Heap.get?_push_of_some _ e, turn_tuple a _, ⟨_, Heap.get?_push_size _ rfl, rfl, rfl⟩, fun b hb => ?_, q⟩
    have e : b = s1.heap.objs.size := by simpa using hb
    subst e
    exact I1.fpOk (Nat.le_refl _) (I1.hok.fresh (Nat.le_refl _))
end
section
variable {K : PySem.W.Frag} {σ : St} {H : Hp} {p : Addr} {xs : List V} {te : TE} {tt : TT} {j : Nat} {vs : List Nat} {Q : VK}
theorem take_snoc {α : Type} {l : List α} {i : Nat} {x : α} (h : l[i]? = some x) : l.take (i + 1) = l.take i ++ [x] := by
  rw [List.take_add_one, h]
  rfl
/-- [f(x) for x in xs if b(x)], what is tested and made only adding to the heap: the reading behind the source's own -/
theorem lc_sqR {Qd : Addr → Hp → Prop} {f : V → V} {b : V → Bool} (hx : Sq H p xs) (hz : xs.length < sizeLine) (hw : ∀ x, wipe ((wipe σ vs).set j (some x)) vs = wipe σ vs)
    (ht : ∀ x ∈ xs, ∀ H', Ext H H' → ∀ Q : Bool → Hp → Prop, (∀ H'', Ext H' H'' → Q (b x) H'') → tt ((wipe σ vs).set j (some x)) H' Q)
    (he : ∀ x ∈ xs, b x = true → ∀ H', Ext H H' → ∀ Q : VK, (∀ H'', Ext H' H'' → Q (f x) H'') → te ((wipe σ vs).set j (some x)) H' Q)
    (q : ∀ D H', H D = none → Ext H H' → H' D = some (.lst ((xs.filter b).map f)) → Qd D H') :
    ((∃ xs, SqL K H p xs) ∧ (fun J H1 => ∀ D, H1 D = none → ∃ W : Nat → Nat → Hp → Prop, (∃ m, W 0 m (upd H1 D (.lst []))) ∧ ∀ i m H, W i m H →
      (J.stop i H ∧ Qd D H) ∨ (J.go i H ∧ ∃ Nx : Hp → Prop, (∀ H', Nx H' → ∃ m', m' < m ∧ W (i + 1) m' H') ∧ ∀ x H', J.yld i H x H' → gName j x (wipe σ vs) H' fun σ2 H2 => wipe σ2 vs = wipe σ vs ∧ tt σ2 H2 fun b H3 =>
        if b = true then te σ2 H3 fun y H4 => ∃ acc, H4 D = some (.lst acc) ∧ acc.length < sizeLine ∧ Nx (upd H4 D (.lst (acc ++ [y]))) else Nx H3)) (Itl K p) H) ∨
    ((∃ xs, SqT K H p xs) ∧ (fun J H1 => ∀ D, H1 D = none → ∃ W : Nat → Nat → Hp → Prop, (∃ m, W 0 m (upd H1 D (.lst []))) ∧ ∀ i m H, W i m H →
      (J.stop i H ∧ Qd D H) ∨ (J.go i H ∧ ∃ Nx : Hp → Prop, (∀ H', Nx H' → ∃ m', m' < m ∧ W (i + 1) m' H') ∧ ∀ x H', J.yld i H x H' → gName j x (wipe σ vs) H' fun σ2 H2 => wipe σ2 vs = wipe σ vs ∧ tt σ2 H2 fun b H3 =>
        if b = true then te σ2 H3 fun y H4 => ∃ acc, H4 D = some (.lst acc) ∧ acc.length < sizeLine ∧ Nx (upd H4 D (.lst (acc ++ [y]))) else Nx H3)) (Itt K p) H) := by
  have turn : ∀ (D : Addr), H D = none → ∀ i x H', xs[i]? = some x → (Ext H H' ∧ H' D = some (.lst (((xs.take i).filter b).map f))) → gName j x (wipe σ vs) H' fun σ2 H2 => wipe σ2 vs = wipe σ vs ∧ tt σ2 H2 fun b' H3 =>
      if b' = true then te σ2 H3 fun y H4 => ∃ acc, H4 D = some (.lst acc) ∧ acc.length < sizeLine ∧ (Ext H (upd H4 D (.lst (acc ++ [y]))) ∧ upd H4 D (.lst (acc ++ [y])) D = some (.lst (((xs.take (i + 1)).filter b).map f))) else (Ext H H3 ∧ H3 D = some (.lst (((xs.take (i + 1)).filter b).map f))) := by
    intro D hD i x H' hi pv
    obtain ⟨e, hl⟩ := pv
    have hm : x ∈ xs := List.mem_of_getElem? hi
    refine ⟨hw x, ht x hm H' e _ fun H3 e3 => ?_⟩
    have hl3 : H3 D = some (.lst (((xs.take i).filter b).map f)) := e3 _ _ hl
    cases hb : b x with
    | true =>
      refine iteT (he x hm hb H3 (e.trans e3) _ fun H4 e4 => ⟨_, e4 _ _ hl3, ?_, ext_mut ((e.trans e3).trans e4) hD, ?_⟩)
      · rw [List.length_map]
        refine Nat.lt_of_le_of_lt (Nat.le_trans (List.length_filter_le _ _) ?_) hz
        exact List.length_take_le' _ _
      · rw [upd_same, take_snoc hi, List.filter_append, List.map_append]
        simp [hb]
    | false =>
      refine iteF ⟨e.trans e3, ?_⟩
      rw [hl3, take_snoc hi, List.filter_append, List.map_append]
      simp [hb]
  have fin : ∀ D, H D = none → ∀ H', (Ext H H' ∧ H' D = some (.lst (((xs.take xs.length).filter b).map f))) → Qd D H' := fun D hD H' pv => by
    rw [List.take_length] at pv
    exact q D H' hD pv.1 pv.2
  rcases hx with hx | hx
  · refine .inl ⟨⟨xs, SqL.of hx⟩, fun D hD => lc_list (xs := xs) (fun i H' => Ext H H' ∧ H' D = some (.lst (((xs.take i).filter b).map f))) ⟨Ext.upd hD, upd_same⟩ (fun i H' _ pv => SqL.of (pv.1 _ _ hx)) (fun i x H' hi pv => turn D hD i x H' hi pv) (fun H' pv => fin D hD H' pv)⟩
  · refine .inr ⟨⟨xs, SqT.of hx⟩, fun D hD => lc_tup (xs := xs) (fun i H' => Ext H H' ∧ H' D = some (.lst (((xs.take i).filter b).map f))) ⟨Ext.upd hD, upd_same⟩ (fun i H' _ pv => SqT.of (pv.1 _ _ hx)) (fun i x H' hi pv => turn D hD i x H' hi pv) (fun H' pv => fin D hD H' pv)⟩
end
theorem filter_all {α : Type} (l : List α) : l.filter (fun _ => true) = l := List.filter_eq_self.mpr fun _ _ => rfl
end L2

set_option Elab.async false
set_option maxRecDepth 100000
set_option maxHeartbeats 4000000
/-! enumerate over a list or a tuple -/
namespace PySem
open Sem (wp)
/-- the maker of enumerate, handed one thing whose iterator is told -/
theorem en1_meets {v : Value} {ob : Obj} {HP : Heap → Prop} (BG : Begins v ob HP) :
    Meets (Builtin.«enumerate.__new__» ⟨[.type "enumerate", v], []⟩) (fun _ RR sh => HP sh.heap ∧
      RR (.ok (.ret (.ref (sh.heap.push ob).objs.size)))
        { sh with heap := (sh.heap.push ob).push { cls := .type "enumerate", data := .fields #[.none, .bool false, .ref sh.heap.objs.size, rawInt 0, .none, .none] } }) :=
  .of_wp fun pr ww AA RR sh hh => by
    obtain ⟨hp, gg, dd, tk, os⟩ := sh
    obtain ⟨hh1, hh⟩ := hh
    have sub1 := sub_enumerate
    have begin1 : ∀ {A1 : Around} {E1 Q1 : Value → Shared → Prop}, Q1 (.ref hp.objs.size) ⟨hp.push ob, gg, dd, tk, os⟩ →
        wpAny (model pr ww) A1 (pyIter v) Q1 E1 ⟨hp, gg, dd, tk, os⟩ :=
      fun qq => BG.iter pr ww _ _ ⟨hp, gg, dd, tk, os⟩ _ hh1 qq
    wp_walk using begin1
    refine wpAny_stack_any fun sta => wpAny_pure ?_
    split
    · rename_i cc _ _ _ _ _
      cases (cc == Value.type "enumerate")
      all_goals
        wp_walk using begin1
        exact ⟨_, rfl, hh⟩
    · wp_walk using begin1
      exact ⟨_, rfl, hh⟩
section
variable {pr : Program} {ww : World} {AA : Around} {EE : Value → Shared → Prop} {sh : Shared}
theorem en1_call {v : Value} {ob : Obj} {HP : Heap → Prop} {QQ : Value → Shared → Prop} (BG : Begins v ob HP) (hh : HP sh.heap)
    (kk : ∀ h1, IsEnum h1 (sh.heap.objs.size + 1) sh.heap.objs.size 0 .none → h1.get? sh.heap.objs.size = some ob →
      (∀ x y, sh.heap.get? x = some y → h1.get? x = some y) → QQ (.ref (sh.heap.objs.size + 1)) { sh with heap := h1 }) :
    wpAny (model pr ww) AA (call (.type "enumerate") [v]) QQ EE sh := by
  refine callType_new F.called_enumerate (by decide) (F.typeCall_enumerate_1 _) (F.newCall_enumerate_1 _) (fun oo => F.args_object_init_2 oo _) F.entry_enumerate_new (en1_meets BG) ⟨hh, ?_⟩
  have sz : (sh.heap.push ob).objs.size = sh.heap.objs.size + 1 := Heap.size_push ..
  show _ ∧ _
  rw [sz]
  have en : IsEnum ((sh.heap.push ob).push { cls := .type "enumerate", data := .fields #[.none, .bool false, .ref sh.heap.objs.size, rawInt 0, .none, .none] })
      (sh.heap.objs.size + 1) sh.heap.objs.size 0 .none := by
    have qq := Heap.get?_push_size (sh.heap.push ob) (o := { cls := .type "enumerate", data := .fields #[.none, .bool false, .ref sh.heap.objs.size, rawInt 0, .none, .none] }) rfl
    rw [sz] at qq
    exact qq
  exact ⟨⟨_, en, rfl⟩, kk _ en (Heap.get?_push_of_some _ (Heap.get?_push_size _ BG.free)) fun x y hx => Heap.get?_push_of_some _ (Heap.get?_push_of_some _ hx)⟩
end
end PySem
namespace L2
open PySem PySem.Spec PyProof.Rows
/-- the tuple at a, each item in a new pair with its place -/
def Itet (K : PySem.W.Frag) (a : Addr) : It :=
  ⟨fun i H => ∃ xs : List V, SqT K H a xs ∧ i < xs.length,
    fun i H v H' => ∃ T x, v = .ref T ∧ H T = none ∧ H' = upd H T (.tup [.int (i : Nat), x]) ∧ ∀ xs, SqT K H a xs → xs[i]? = some x,
    fun i H => ∃ xs : List V, SqT K H a xs ∧ xs.length = i⟩
theorem turn_enT {P : Program} {w : World} {K : PySem.W.Frag} {elts : List Expr} {kk : Nat} {tpos : Pos} (a e it : Addr) (hea : e ≠ a) (hia : a ≠ it) :
    Turn P w K (.Tuple elts kk tpos) (Itet K a) [e, it] e (fun i h => (∃ old, IsEnum h e it ((i : Nat) : Int) old) ∧ h.IsTupleIter it a i ∧ e ≠ it) where
  mem := List.mem_cons_self
  obj := fun i h st b hb => by
    obtain ⟨⟨old, he⟩, ⟨o, ho, _, hd⟩, _⟩ := st
    rcases List.mem_cons.mp hb with z | z
    · subst z
      exact ⟨_, he, fun v q => nomatch q⟩
    · have z' := List.mem_singleton.mp z
      subst z'
      exact ⟨o, ho, fun v q => by rw [hd] at q; cases q⟩
  keep := fun i h h' st k => by
    obtain ⟨⟨old, he⟩, hi, hne⟩ := st
    exact ⟨⟨old, k e List.mem_cons_self _ he⟩, hi.at fun o q => k it (List.mem_cons_of_mem _ (List.mem_singleton.mpr rfl)) o q, hne⟩
  item := by
    intro X hP hw hK hc i pins s σ H E I hf st hg
    subst hP hw hK
    obtain ⟨⟨old, he⟩, hit, hne⟩ := st
    obtain ⟨xs, hq, hx⟩ := hg
    obtain ⟨its, rv, p, hz⟩ := I.tuple hq
    have hl := rv.length
    have hel : e < s.heap.objs.size := Heap.lt_size he
    have hil : it < s.heap.objs.size := by
      obtain ⟨_, q, _⟩ := hit
      exact Heap.lt_size q
    have D := Draws.tuple (prog := X.prog) (w := X.w) (A := X.A.in1) (show X.A.in1.handled = none from I.ok.hd hc) it a hia its.toArray
    refine wpAny_pyNext_enum_itemC D he (i := i) ⟨hit, p⟩ (by simp; omega) hne (by simp [hne, hea]) fun u h' tk hP ho hst' hT hsz hk => ?_
    have hu : its[i]? = some u := by simpa using hP
    obtain ⟨x, hxx⟩ : ∃ x, xs[i]? = some x := ⟨_, List.getElem?_eq_getElem hx⟩
    obtain ⟨u', hu', ru'⟩ := rv.get hxx
    have eu : u' = u := Option.some.inj (hu'.symm.trans hu)
    subst eu
    refine ⟨_, rfl, wpAny_letOwnedTupleGo_enum (s := { s with heap := h', toks := tk + 1 }) ho fun h2 he2 sb => ?_⟩
    have hT2 : h2.get? s.heap.objs.size = some { cls := .type "tuple", data := .seq #[.int i tk, u'] } := (sb.2 _ (Nat.ne_of_gt hel)).trans hT
    have new : ObjOk X.prog X.w (upd H s.heap.objs.size (.tup [.int (i : Nat), x])) h2 s.heap.objs.size (.tup [.int (i : Nat), x]) := by
      refine ⟨?_, [.int i tk, u'], .cons ⟨_, rfl⟩ (.cons ru' .nil), ⟨_, hT2, rfl, _, rfl⟩⟩
      show 2 ≤ sizeLine
      decide
    have I1 : Inv X pins σ (upd H s.heap.objs.size (.tup [.int (i : Nat), x])) { s with heap := h2, toks := tk + 1 } := by
      refine I.turnedNew (ch := [e, it]) (fun b ob hb q => ?_) hf (Nat.le_refl _) new
      have b1 : b ≠ e := fun z => hb (by simp [z])
      have b2 : b ≠ it := fun z => hb (by simp [z])
      exact (sb.2 b b1).trans (hk b ob b1 b2 q)
    refine ⟨.ref s.heap.objs.size, _, I1, rfl, ⟨_, x, rfl, I.hok.fresh (Nat.le_refl _), rfl, fun ys hy => ?_⟩, ⟨⟨u', ?_⟩, hst'.1.at fun o q => (sb.2 it (Ne.symm hne)).trans q, hne⟩, fun b hb => ?_⟩
    · obtain ⟨its2, rv2, p2, _⟩ := I.tuple hy
      rw [I.tuple_inj hy hq]
      exact hxx
    · have e1 : ((i + 1 : Nat) : Int) = (i : Int) + 1 := rfl
      rw [e1]
      exact he2
    · have hb' : b < s.heap.objs.size := by
        rcases List.mem_cons.mp hb with z | z
        · rw [z]
          exact hel
        · rw [List.mem_singleton.mp z]
          exact hil
      rw [upd_ne (Nat.ne_of_lt hb')]
      exact (hf b hb).1
  done := by
    intro X hP hw hK hc i pins s σ H E I hf st hg
    subst hP hw hK
    obtain ⟨⟨old, he⟩, hit, hne⟩ := st
    obtain ⟨xs, hq, hx⟩ := hg
    obtain ⟨its, rv, p, hz⟩ := I.tuple hq
    have hl := rv.length
    obtain ⟨f0, f1, f2, f3, f4, f5⟩ := hf it (List.mem_cons_of_mem _ (List.mem_singleton.mpr rfl))
    have D := Draws.tuple (prog := X.prog) (w := X.w) (A := X.A.in1) (show X.A.in1.handled = none from I.ok.hd hc) it a hia its.toArray
    have ei : i = its.toArray.size := by simp; omega
    refine wpAny_pyNext_enum_endD D he (by rw [← ei]; exact ⟨hit, p⟩) fun h' eb => ⟨rfl, ?_⟩
    exact I.turned (t' := s.toks) (fun b o hb q => eb b o hb q) f0 f1 f3 f4 f5
  self := fun A i s Q E st h => by
    obtain ⟨⟨_, he⟩, _⟩ := st
    exact wpAny_pyIter_enum he h
/-- a list or a tuple is walked with the places -/
def iEnSq (K : PySem.W.Frag) (ta : TA) : TI := fun σ H R => ta σ H fun vs H1 => ∃ a, vs = [.ref a] ∧ (((∃ xs, SqL K H1 a xs) ∧ R (Ite K a) H1) ∨ ((∃ xs, SqT K H1 a xs) ∧ R (Itet K a) H1))
theorem pi_enSq {X : Cx} {e : Expr} {ta : TA} {p pos tpos : Pos} {elts : List Expr} {kk : Nat} (hg : Gl X "enumerate") (hm : X.mg "enumerate" = none) (ha : PA X [e] ta) (hs : starEach [e] X.env = [(false, eval e X.env)] := by rfl) :
    PI X (.Tuple elts kk tpos) (.Call (.Name "enumerate" p) [e] [] pos) (iEnSq X.K ta) := by
  refine ⟨fun pins s σ H R I h => ?_⟩
  refine Call_ (ld_blt I hg hm boot_enumerate (PyProof.Rows.callWith_type1 (thn (ha.run pos pins s σ H _ I h) fun us s1 ⟨vs, H1, I1, r1, q1⟩ => ?_) hs rfl))
  obtain ⟨a, ex, q1⟩ := q1
  subst ex
  obtain rfl := Vals.ref1 r1
  have two : ∀ b, b ∈ [s1.heap.objs.size + 1, s1.heap.objs.size] → s1.heap.objs.size ≤ b := fun b hb => by
    rcases List.mem_cons.mp hb with z | z
    · rw [z]
      exact Nat.le_add_right _ _
    · rw [List.mem_singleton.mp z]
      exact Nat.le_refl _
  rcases q1 with ⟨⟨xs, hq⟩, q⟩ | ⟨⟨xs, hq⟩, q⟩
  · obtain ⟨its, rv, p', hz⟩ := I1.list hq
    refine en1_call (begins_list a its.toArray) p'.isList fun h' he hit hk => wpAny_pyIter_enum he ?_
    have I2 : Inv X pins σ H1 { s1 with heap := h' } := I1.kept (t' := s1.toks) hk
    refine ⟨s1.heap.objs.size + 1, [s1.heap.objs.size + 1, s1.heap.objs.size], _, _, H1, rfl, I2, turn_enum a (s1.heap.objs.size + 1) s1.heap.objs.size, ⟨⟨.none, he⟩, ⟨_, hit, rfl, rfl⟩, Nat.succ_ne_self _⟩, fun b hb => ?_, q⟩
    exact I1.fpOk (two b hb) (I1.hok.fresh (two b hb))
  · obtain ⟨its, rv, p', hz⟩ := I1.tuple hq
    have hlt : a < s1.heap.objs.size := by
      obtain ⟨o, ho, _⟩ := (show s1.heap.IsTuple a its.toArray from p')
      exact Heap.lt_size ho
    refine en1_call (begins_tuple a its.toArray) p' fun h' he hit hk => wpAny_pyIter_enum he ?_
    have I2 : Inv X pins σ H1 { s1 with heap := h' } := I1.kept (t' := s1.toks) hk
    refine ⟨s1.heap.objs.size + 1, [s1.heap.objs.size + 1, s1.heap.objs.size], _, _, H1, rfl, I2, turn_enT a (s1.heap.objs.size + 1) s1.heap.objs.size (Nat.ne_of_gt (Nat.lt_succ_of_lt hlt)) (Nat.ne_of_lt hlt), ⟨⟨.none, he⟩, ⟨_, hit, rfl, rfl⟩, Nat.succ_ne_self _⟩, fun b hb => ?_, q⟩
    exact I1.fpOk (two b hb) (I1.hok.fresh (two b hb))
section
variable {K : PySem.W.Frag} {a : Addr} {xs : List V}
theorem walk_enT : Walk (Itet K a) xs.length (fun H => SqT K H a xs) (YPair (fun i => some (.int (i : Nat))) (fun i => xs[i]?)) := by
  refine ⟨fun i _ hi q => ⟨xs, q, hi⟩, fun _ q => ⟨xs, q, rfl⟩, fun i H v H' _ q y => ?_⟩
  obtain ⟨T, x, e1, e2, e3, e4⟩ := y
  exact ⟨T, .int (i : Nat), x, e1, e2, e3, rfl, e4 xs q⟩
/-- the turns of an end: what goes on is N -/
def turnsOf (g : TG) (tb : TS) (D : Ends) (σ : St) (J : It) (H : Hp) : Prop := ∃ W : Nat → Nat → St → Hp → Prop, (∃ m, W 0 m σ H) ∧ ∀ i m σ H, W i m σ H →
  (J.stop i H ∧ D.nx σ H) ∨ (J.go i H ∧ ∃ N : St → Hp → Prop, (∀ σ' H', N σ' H' → ∃ m', m' < m ∧ W (i + 1) m' σ' H') ∧ ∀ x H', J.yld i H x H' → g x σ H' fun σ2 H2 => tb { D with nx := N, ct := N, bk := D.nx } σ2 H2)
theorem for_enSq {g : TG} {tb : TS} {D : Ends} {σ : St} {H : Hp} (hx : SqL K H a xs ∨ SqT K H a xs) (Pv : Nat → St → Hp → Prop) (h0 : Pv 0 σ H) (hE : ∀ i σ' H', Pv i σ' H' → Ext H H')
    (hs : ∀ i x σ' H' T, xs[i]? = some x → Pv i σ' H' → H' T = none → g (.ref T) σ' (upd H' T (.tup [.int (i : Nat), x])) fun σ2 H2 => tb { D with nx := Pv (i + 1), ct := Pv (i + 1), bk := D.nx } σ2 H2) (hd : ∀ σ' H', Pv xs.length σ' H' → D.nx σ' H') :
    ((∃ xs, SqL K H a xs) ∧ turnsOf g tb D σ (Ite K a) H) ∨ ((∃ xs, SqT K H a xs) ∧ turnsOf g tb D σ (Itet K a) H) := by
  have step : ∀ i x σ' H' H'', i < xs.length → Pv i σ' H' → YPair (fun i => some (V.int (i : Nat))) (fun i => xs[i]?) i H' x H'' → g x σ' H'' fun σ2 H2 => tb { D with nx := Pv (i + 1), ct := Pv (i + 1), bk := D.nx } σ2 H2 := by
    rintro i v σ' H' H'' hi pv ⟨T, x, y, rfl, hT, rfl, hx', hy⟩
    cases hx'
    exact hs i y σ' H' T hy pv hT
  rcases hx with hx | hx
  · exact .inl ⟨⟨xs, hx⟩, for_it (walk_enum (xs := xs)) Pv h0 (fun i σ' H' _ pv => hx.ext (hE i σ' H' pv)) step hd⟩
  · exact .inr ⟨⟨xs, hx⟩, for_it (walk_enT (xs := xs)) Pv h0 (fun i σ' H' _ pv => hx.ext (hE i σ' H' pv)) step hd⟩
end
end L2

set_option Elab.async false
set_option maxRecDepth 100000
set_option maxHeartbeats 4000000
/-! values told by the data that they hold -/
namespace L2
open PySem PySem.Spec PyProof.Rows
/-- the type's name -/
def tnD : PyData → String
  | .none => "NoneType" | .bool _ => "bool" | .int _ => "int" | .str _ => "str" | .list _ => "list" | .tuple _ => "tuple" | .dict _ => "dict"
def isIntD : PyData → Bool | .int _ => true | .bool _ => true | _ => false
def isBoolD : PyData → Bool | .bool _ => true | _ => false
def isTupD : PyData → Bool | .tuple _ => true | _ => false
def isListD : PyData → Bool | .list _ => true | _ => false
def isStrD : PyData → Bool | .str _ => true | _ => false
def isSeqD : PyData → Bool | .list _ => true | .tuple _ => true | _ => false
def isNoneD : PyData → Bool | .none => true | _ => false
/-- the int that it is, no truth -/
def betD (d : PyData) (a b : Int) : Bool := match d with
  | .int n => decide (a ≤ n) && decide (n ≤ b)
  | _ => false
def lenD : PyData → Nat | .list ds => ds.length | .tuple ds => ds.length | _ => 0
section
variable {K : PySem.W.Frag} {H H' : Hp} {v : V} {d : PyData}
theorem dp_ty (h : Dp K H v d) : TyX K H v (.type (tnD d)) := by
  cases h with
  | non => exact .base .non
  | bl b => exact .base (.bl b)
  | int i => exact .base (.int i)
  | str s => exact .base (.str s)
  | lst hs _ =>
    rcases hs with (h | ⟨o, h⟩) | ⟨o, its, n, e, c, _⟩
    · exact .base (.lst h)
    · exact .base (.frz h)
    · exact .kList e c
  | tup hs _ =>
    rcases hs with (h | ⟨o, h⟩) | ⟨o, its, n, e, c, _⟩
    · exact .base (.tup h)
    · exact .fTuple h
    · exact .kTuple e c
theorem kd_int : PySem.W.kitOne K (.type (tnD d)) (.type "int") = some (isIntD d) := by cases d <;> exact kit_ty (by dsimp only [tnD, isIntD]; decide +kernel)
theorem kd_bool : PySem.W.kitOne K (.type (tnD d)) (.type "bool") = some (isBoolD d) := by cases d <;> exact kit_ty (by dsimp only [tnD, isBoolD]; decide +kernel)
theorem kd_tup : PySem.W.kitOne K (.type (tnD d)) (.type "tuple") = some (isTupD d) := by cases d <;> exact kit_ty (by dsimp only [tnD, isTupD]; decide +kernel)
theorem kd_list : PySem.W.kitOne K (.type (tnD d)) (.type "list") = some (isListD d) := by cases d <;> exact kit_ty (by dsimp only [tnD, isListD]; decide +kernel)
theorem kd_seq : PySem.W.kitAny K (.type (tnD d)) [.type "list", .type "tuple"] = some (isSeqD d) := by
  unfold PySem.W.kitAny
  rw [kd_list]
  unfold PySem.W.kitAny
  rw [kd_tup]
  cases d <;> rfl
theorem kd_find : (fastFind? (tnD d)).isSome = true := by cases d <;> (dsimp only [tnD]; decide +kernel)
mutual
theorem dp_ext (e : Ext H H') : ∀ (d : PyData) (v : V), Dp K H v d → Dp K H' v d
  | .none, _, h => by cases h; exact .non
  | .bool _, _, h => by cases h; exact .bl _
  | .int _, _, h => by cases h; exact .int _
  | .str _, _, h => by cases h; exact .str _
  | .list ds, _, h => by
    cases h with
    | lst hs ha => exact .lst (hs.ext e) (dps_ext e ds _ ha)
  | .tuple ds, _, h => by
    cases h with
    | tup hs ha => exact .tup (hs.ext e) (dps_ext e ds _ ha)
  | .dict _, _, h => by cases h
theorem dps_ext (e : Ext H H') : ∀ (ds : List PyData) (vs : List V), DpAll K H vs ds → DpAll K H' vs ds
  | [], _, h => by cases h; exact .nil
  | d :: ds, _, h => by
    cases h with
    | cons h1 h2 => exact .cons (dp_ext e d _ h1) (dps_ext e ds _ h2)
end
theorem dps_len : ∀ {vs : List V} {ds : List PyData}, DpAll K H vs ds → vs.length = ds.length
  | [], _, h => by cases h; rfl
  | v :: vs, _, h => by
    cases h with
    | cons _ h2 => exact congrArg Nat.succ (dps_len h2)
theorem dps_get : ∀ {vs : List V} {ds : List PyData} {i : Nat} {v : V}, DpAll K H vs ds → vs[i]? = some v → ∃ d, ds[i]? = some d ∧ Dp K H v d
  | [], _, _, _, _, e => by cases e
  | v :: vs, _, i, _, h, e => by
    cases h with
    | @cons _ _ d ds h1 h2 =>
      cases i with
      | zero => cases e; exact ⟨d, rfl, h1⟩
      | succ i => exact dps_get (i := i) h2 e
theorem bet_int {n a b : Int} : betD (.int n) a b = (decide (a ≤ n) && decide (n ≤ b)) := rfl
theorem bet_not {a b : Int} (h : (isIntD d && !isBoolD d) = false) : betD d a b = false := by cases d <;> first | rfl | cases h
theorem bet_yes {a b : Int} (h : betD d a b = true) : ∃ n, d = .int n ∧ a ≤ n ∧ n ≤ b := by
  cases d <;> first | (rw [bet_int, Bool.and_eq_true, decide_eq_true_eq, decide_eq_true_eq] at h; exact ⟨_, rfl, h.1, h.2⟩) | cases h
theorem int_yes (h : (isIntD d && !isBoolD d) = true) : ∃ n, d = .int n := by cases d <;> first | exact ⟨_, rfl⟩ | cases h
theorem dp_int {n : Int} (h : Dp K H v (.int n)) : v = .int n := by cases h; rfl
theorem dp_seq (h : Dp K H v d) (hs : isSeqD d = true) : ∃ (a : Addr) (xs : List V) (ds : List PyData), v = .ref a ∧ (SqL K H a xs ∨ SqT K H a xs) ∧ DpAll K H xs ds ∧ (d = .list ds ∨ d = .tuple ds) := by
  cases h with
  | lst h ha => exact ⟨_, _, _, rfl, .inl h, ha, .inl rfl⟩
  | tup h ha => exact ⟨_, _, _, rfl, .inr h, ha, .inr rfl⟩
  | _ => cases hs
theorem dp_tup (h : Dp K H v d) (hs : isTupD d = true) : ∃ (a : Addr) (xs : List V) (ds : List PyData), v = .ref a ∧ SqT K H a xs ∧ DpAll K H xs ds ∧ d = .tuple ds := by
  cases h with
  | tup h ha => exact ⟨_, _, _, rfl, h, ha, rfl⟩
  | _ => cases hs
end
/-! ### own methods, called -/
section
variable {X : Cx} {CX : CXT} {m : Str} {k : Nat} {ps : List Str} {sp : Sp} {e o : Expr} {es : List Expr} {t : TA} {ta : TE} {pos apos : Pos} {C : Addr}
theorem pe_ownM0 {pl : Sem Bool} (O : OwnM X.prog X.w X.K X.mg X.base CX C m k ps sp) (he : PE X o ta) (c : Cls X.K C) (hr : Room k X.A) (hx : Passes CX X E0)
    (ht : eval (.Call (.Attribute o m apos) [] [] pos) X.env = (do
      let ov ← eval o X.env
      standAt apos.atName
      let (f, first) ← holding [ov] (getMethod ov m pl)
      callWith pos f first (backTo pos (starEach [] X.env)) (backToKw pos (keywordEach [] X.env))) := by rfl) :
    PE X (.Call (.Attribute o m apos) [] [] pos) (tMeth C m sp [] E0 ta tNil) := by
  obtain ⟨f, fd, F, M, _, hb⟩ := O.ex
  exact pe_meth0 he c M F hr hb .nil hx ht
theorem pe_ownM {pl : Sem Bool} (O : OwnM X.prog X.w X.K X.mg X.base CX C m k ps sp) (he : PE X o ta) (c : Cls X.K C) (hr : Room k X.A) (hx : Passes CX X E0) (ha : PA X (e :: es) t)
    (hst : starEach (e :: es) X.env = (false, eval e X.env) :: starEach es X.env := by rfl) (hpl : (backTo pos (starEach es X.env)).any (·.1) = false := by rfl)
    (ht : eval (.Call (.Attribute o m apos) (e :: es) [] pos) X.env = (do
      let ov ← eval o X.env
      standAt apos.atName
      let (f, first) ← holding [ov] (getMethod ov m pl)
      callWith pos f first (backTo pos (starEach (e :: es) X.env)) (backToKw pos (keywordEach [] X.env))) := by rfl) :
    PE X (.Call (.Attribute o m apos) (e :: es) [] pos) (tMeth C m sp [] E0 ta t) := by
  obtain ⟨f, fd, F, M, _, hb⟩ := O.ex
  exact pe_meth he c M F hr hb .nil hx ha hst hpl ht
end
end L2

set_option Elab.async false
set_option maxRecDepth 100000
set_option maxHeartbeats 4000000
/-! defs that are handed the error that the suite holds; classes made with defaults -/
namespace L2
open PySem PySem.Spec PyProof.Rows
section
variable {X : Cx}
/-- isinstance(e, c), e the held error, anywhere that it is pinned -/
theorem call_isEP {a D : Addr} {cls : Value} {d : Option Addr} {oe : Obj} (hpn : (a, oe) ∈ X.pn) (C : ExcC X.K D) (hz : Zc cls d oe) (hf : ∃ vs, oe.data = .fields vs) : CallR X (.builtin "isinstance") (rIsED X.K D a cls d) := by
  intro pins s σ H xs us Q I r h
  obtain ⟨ec0, hdd, c, cv, b, rfl, hcv, e, q⟩ := h
  subst ec0
  cases r with
  | cons rx rr =>
    cases rr with
    | cons rt rr =>
      cases rr
      cases rx
      have ec := hcv _ rt
      subst ec
      obtain ⟨hget, _⟩ := I.pin (a, oe) (List.mem_append.mpr (.inl hpn))
      obtain ⟨vs, hv⟩ := hf
      have J : ∃ od, PySem.W.InstAt s.heap a oe D od := by
        obtain ⟨oc, od, oda, osl⟩ := oe
        obtain ⟨h1, h2⟩ := hz
        dsimp only at h1 h2 hv
        subst h1 h2 hv
        cases od with
        | none => exact ⟨none, hget, rfl, rfl, trivial⟩
        | some dd =>
          obtain ⟨fs, hfs⟩ := hdd dd rfl
          obtain ⟨mA, hns, _⟩ := (show ObjOk X.prog X.w H s.heap dd (.xd fs) from I.hok dd _ hfs)
          obtain ⟨od, ho, _⟩ := lookIn_ns hns
          exact ⟨some od, hget, rfl, rfl, ho⟩
      exact PySem.W.kia_one (PySem.W.kitx_excD C) I.kIn J e (fun z => nomatch z) fun tk => ⟨.bl b, H, I.kept (t' := tk) fun _ _ z => z, rfl, q⟩
/-- e.f of it -/
theorem pe_xfP {a C : Addr} {oe : Obj} {cls : Value} {d : Option Addr} {e : Expr} {te : TE} {pos : Pos} {n : Str} (hpn : (a, oe) ∈ X.pn) (T : XfC X.K C) (hno : PySem.W.findIn X.K (.ref C) n = some none)
    (hz : Zc cls d oe) (hf : ∃ vs, oe.data = .fields vs) (he : PE X e te) (hb : attributeBase e n X.env (eval e X.env) = eval e X.env := by rfl) :
    PE X (.Attribute e n pos) (tXf a cls d C n te) := by
  refine ⟨fun pins s σ H Q I h => attr_of hb (thn (he.run pins s σ H _ I h) fun u s1 hh => ?_)⟩
  obtain ⟨x, H1, I1, rx, ex, ec, dd, fs, v, ed, ea, l, q⟩ := hh
  subst ex ec ed
  obtain rfl : u = Value.ref a := rx
  obtain ⟨hget, _⟩ := I1.pin (a, oe) (List.mem_append.mpr (.inl hpn))
  obtain ⟨vs, hv⟩ := hf
  obtain ⟨mA, hns, hr⟩ := (show ObjOk X.prog X.w H1 s1.heap dd (.xd fs) from I1.hok dd _ ea)
  obtain ⟨od, ho, hl⟩ := lookIn_ns hns
  obtain ⟨uu, hu, ru⟩ := RelO.some_of (v := v) (o := mA n) (by rw [← l]; exact hr n)
  have ncls : PySem.W.notCls oe = true := by
    unfold PySem.W.notCls
    rw [hv] <;> rfl
  have J : PySem.W.InstAt s1.heap a oe C (some od) := ⟨hget, hz.1, ncls, by rw [hz.2]; exact ho⟩
  have fo := PySem.W.findObj_own T.hdC hno (od := od) rfl (by rw [hl, hu])
  exact HandSPX.exc_get I1.kIn J T.ga T.gg T.exC fo (handed_of ru) ⟨v, H1, I1.tok _, ru, q⟩
end
end L2
namespace L2H
open PySem PySem.Spec PyProof.Rows L2 HotX
/-- such a def: its promise speaks of the held error, too -/
structure FnE (P : Program) (w : World) (K : PySem.W.Frag) (mg : Str → Option Value) (base : Heap) (CX : CXT) (k : Nat) (f : Addr) (fd : FuncData) (ps : List Str) (sp : Addr × Obj → Sp) : Prop where
  len : ∀ p vs H Q E, sp p vs H Q E → vs.length = ps.length
  run : ∀ (p : Addr × Obj) (AA : Around) (outer : List Env) (sh : Shared) (H : Hp) (args : Args) (us : List Value) (vs : List V) (Q : VK) (E : XK), RoomH k AA → PinOk outer H sh p → Env0 P w K mg base AA outer sh H →
    BindsTo sh fd args (ps.zip us) → Vals vs us → sp p vs H Q E → codeAny (model P w) AA (.call (.ref f) args) (CR CX outer P w H sh Q E) sh
section
variable {CX : CXT} {P : Program} {w : World} {K : PySem.W.Frag} {mg : Str → Option Value} {base : Heap} {k : Nat} {f : Addr} {fd : FuncData} {x qual : Str} {st : Stmt} {N ps : List Str} {sp : Addr × Obj → Sp}
theorem fnE_of (F : Fun K x qual st f fd) (S : FnScope N ps (defScope st)) (len : ∀ p vs H Q E, sp p vs H Q E → vs.length = ps.length)
    (hbody : ∀ (p : Addr × Obj) (cdv : Value) (AA : Around) (outer : List Env) (sh : Shared) (H : Hp) (vs : List V) (Q : VK) (E : XK), RoomH k (AA.deeper (envOfC qual (defScope st) sh.heap.objs.size f cdv)) → sp p vs H Q E →
      ∃ t, PSs (cxH CX P w K mg base N qual (defScope st) f cdv AA outer sh H E p) (defBody st) t ∧ t { nx := fun _ H' => Q .non H', rt := Q } (L2.start N vs) H) : FnE P w K mg base CX (k + 1) f fd ps sp := by
  obtain ⟨oc, od, kV, doc, pm, an, cdv, ct, osl, rfl, lk, hcd⟩ := F.ex
  refine ⟨len, fun p AA outer sh H args us vs Q E hr hpin e0 hb r hsp => ?_⟩
  have hl := len _ _ _ _ _ hsp
  have KX : K.In sh.heap := e0.mod.kin.keeps fun b o e => (e0.bs b o e).1
  have lim : sh.heap.NoLimit := e0.mod.nolimit.keeps fun b o e => (e0.bs b o e).1
  have binds : ∀ y ∈ ps.zip us, (defScope st).names.lookup y.1 = some .local ∨ ((defScope st).names.lookup y.1 = some .cell ∧ ((cellsFrom (sh.heap.objs.size + 1) (defScope st).names []).lookup y.1).isSome = true) := by
    rintro ⟨n, v⟩ hy
    rcases S.par n (List.of_mem_zip hy).1 with q | q
    · exact .inl q
    · exact .inr ⟨q, PySem.W.cellsFrom_some _ _ _ (.inl q)⟩
  refine codeAny_call_function hr.depth (KX _ _ lk) rfl S.co S.gen rfl (PySem.W.codeRec_of KX hcd) (hb _ _ _ _ ?_)
  refine wpAny_newFunctionEnv_cells S.kind binds fun env he s1 xx => ?_
  subst he
  refine ⟨lim.keeps xx.toInCall.keep, codeAny_func ?_⟩
  obtain ⟨t, ht, hq⟩ := hbody p cdv AA outer sh H vs Q E (hr.deeper _) hsp
  have I := inv_startH (CX := CX) (E := E) S hpin e0 hl r xx
  refine wpAny_mono (ht.run [] s1 (L2.start N vs) H _ I hq) (fun fl s' hs => ?_) fun _ _ hs => hs
  cases fl with
  | ret u =>
    obtain ⟨v, σ', H', J, rv, q⟩ := hs
    exact ⟨v, H', J.os, J.bare, J.base, J.hok, rv, q⟩
  | next =>
    obtain ⟨σ', H', J, q⟩ := hs
    exact ⟨V.non, H', J.os, J.bare, J.base, J.hok, rfl, q⟩
  | brk =>
    obtain ⟨_, _, _, q⟩ := hs
    exact q.elim
  | cont =>
    obtain ⟨_, _, _, q⟩ := hs
    exact q.elim
end
section
variable {X : Cx} {CX : CXT} {k : Nat} {f : Addr} {fd : FuncData} {ps : List Str} {sp : Addr × Obj → Sp} {x : Str} {q pos : Pos} {e : Expr} {es : List Expr} {t : TA} {p : Addr × Obj}
/-- f(e, ..) in the suite that holds p -/
theorem pe_callE (F : FnE X.prog X.w X.K X.mg X.base CX k f fd ps sp) (hr : RoomH k X.A) (hp : p ∈ X.pn) (hg : Gl X x) (hm : X.mg x = some (.ref f)) (hk : PySem.W.keepIn X.K (.ref f) = true) (hb : Binds X.K fd ps []) (hx : Passes CX X E0)
    (ha : PA X (e :: es) t) (hdb : (x == ("__debug__" : Str)) = false := by decide) (he : starEach (e :: es) X.env = (false, eval e X.env) :: starEach es X.env := by rfl) (hpl : (backTo pos (starEach es X.env)).any (·.1) = false := by rfl) :
    PE X (.Call (.Name x q) (e :: es) [] pos) (tCall (sp p) [] E0 t) := by
  refine ⟨fun pins s σ H Q I h => wpAny_Call_Name_kw (ld_glob I hg hm ?_ hdb)⟩
  refine PySem.W.callWith_K (h₀ := X.base) I.ok.mod.kin hk (thn (ha.run pos pins s σ H _ I h) fun us s1 ⟨vs, H1, I1, r, hsp⟩ => ⟨I1.kIn, ?_⟩) he hpl
  have hsp : sp p vs H1 Q E0 := by
    have z : sp p (vs ++ []) H1 Q E0 := hsp
    rwa [List.append_nil] at z
  have hl : us.length = ps.length := by
    rw [← r.length]
    exact F.len _ _ _ _ _ hsp
  have bd := hb s1 us I1.kIn (by rw [List.append_nil]; exact hl)
  rw [List.append_nil] at bd
  have P1 := I1.pin p (List.mem_append.mpr (.inl hp))
  have hpin : PinOk X.stack H1 s1 p := ⟨P1.1, P1.2.1, fun hm => (List.mem_cons.mp (I1.stkSub p.1 hm)).elim P1.2.2.1 P1.2.2.2.1, P1.2.2.2.2⟩
  refine wpAny_call (codeAny_mono (F.run p X.A X.stack s1 H1 ⟨us, []⟩ us vs Q E0 hr hpin I1.env0 bd r hsp) fun rr s' hq => ?_)
  match rr, hq with
  | .error ee, hq => exact hx pins σ H1 s1 ee s' I1 hq
  | .ok (.ret u), hq => exact I1.after hq
  | .ok .next, hq => exact hq.elim
  | .ok .brk, hq => exact hq.elim
  | .ok .cont, hq => exact hq.elim
end
end L2H
namespace L2
open PySem PySem.Spec PyProof.Rows
/-- a class of the top whose __init__ has defaults, dvs those that fill up -/
structure OwnCD (P : Program) (w : World) (K : PySem.W.Frag) (mg : Str → Option Value) (base : Heap) (CX : CXT) (x : Str) (C : Addr) (k : Nat) (ps : List Str) (sp : Sp) (dvs : List V) : Prop where
  ex : ∃ (f : Addr) (fd : FuncData) (ds : List Value), FnOk P w K mg base CX k f fd ps sp ∧ Mk K C f ∧ mg x = some (.ref C) ∧ Binds K fd ps ds ∧ Vals dvs ds
section
variable {X : Cx} {CX : CXT} {x : Str} {k : Nat} {ps : List Str} {sp : Sp} {e : Expr} {es : List Expr} {t : TA} {p pos : Pos} {C : Addr} {dvs : List V}
theorem pe_newD (O : OwnCD X.prog X.w X.K X.mg X.base CX x C k ps sp dvs) (hr : Room (k + 1) X.A) (hx : Passes CX X E0) (ha : PA X (e :: es) t) (hg : Gl X x := by rfl) (hdb : (x == ("__debug__" : Str)) = false := by decide)
    (he : starEach (e :: es) X.env = (false, eval e X.env) :: starEach es X.env := by rfl) (hpl : (backTo pos (starEach es X.env)).any (·.1) = false := by rfl) : PE X (.Call (.Name x p) (e :: es) [] pos) (tMake C sp dvs E0 t) := by
  obtain ⟨f, fd, ds, F, M, hm, hb, hv⟩ := O.ex
  exact pe_make M F hr hg hm hb hv hx ha hdb he hpl
end
end L2

set_option Elab.async false
set_option maxRecDepth 100000
set_option maxHeartbeats 4000000
/-! a op b op c op d -/
namespace L2
open PySem PySem.Spec PyProof.Rows
def tCh3 (r r' r2 : R2) (ta tb tc td : TE) : TE := fun σ H Q => ta σ H fun x H1 => tb σ H1 fun y H2 => r x y H2 fun z H3 => ∃ k, z = .bl k ∧
  (if k = true then tc σ H3 fun u H4 => r' y u H4 fun z' H5 => ∃ k', z' = .bl k' ∧ (if k' = true then td σ H5 fun v H6 => r2 u v H6 Q else Q (.bl false) H5) else Q (.bl false) H3)
section
variable {X : Cx} {a b c d : Expr} {pos : Pos} {ta tb tc td : TE} {op op' op2 : CmpOp} {r r' r2 : R2}
theorem pe_chain3 (ho : OpR X (compareOp op) r) (ho' : OpR X (compareOp op') r') (ho2 : OpR X (compareOp op2) r2) (ha : PE X a ta) (hb : PE X b tb) (hc : PE X c tc) (hd : PE X d td)
    (hm : lastMarks [op, op', op2] [b, c, d] = false := by with_unfolding_all rfl) : PE X (.Compare a [op, op', op2] [b, c, d] pos) (tCh3 r r' r2 ta tb tc td) := by
  refine ⟨fun pins s σ H Q I h => ?_⟩
  refine Compare_chain (thn (ha.run pins s σ H _ I h) fun v s1 ⟨x, H1, I1, r1, q1⟩ => chain_link (thn (hb.run pins s1 σ H1 _ I1 q1) fun u s2 ⟨y, H2, I2, r2', q2⟩ =>
    thn (ho pins s2 σ H2 x y v u _ I2 r1 r2' q2) fun e s3 ⟨z, H3, I3, r3, k, ez, q3⟩ => ?_)) hm
  subst ez
  cases r3
  refine wpAny_truthy_bool ?_
  cases k with
  | false => exact ite_ff ⟨.bl false, H3, I3, rfl, q3⟩
  | true =>
    refine ite_tt (chain_link (thn (hc.run pins s3 σ H3 _ I3 q3) fun u2 s4 ⟨z4, H4, I4, r4, q4⟩ => thn (ho' pins s4 σ H4 y z4 u u2 _ I4 r2' r4 q4) fun e5 s5 ⟨z5, H5, I5, r5, k5, ez5, q5⟩ => ?_))
    subst ez5
    cases r5
    refine wpAny_truthy_bool ?_
    cases k5 with
    | false => exact ite_ff ⟨.bl false, H5, I5, rfl, q5⟩
    | true => exact ite_tt (chain_last (thn (hd.run pins s5 σ H5 _ I5 q5) fun u6 s6 ⟨z6, H6, I6, r6, q6⟩ => ho2 pins s6 σ H6 z4 z6 u2 u6 Q I6 r4 r6 q6))
theorem pt_chain3 (ho : OpR X (compareOp op) r) (ho' : OpR X (compareOp op') r') (ho2 : OpR X (compareOp op2) r2) (ha : PE X a ta) (hb : PE X b tb) (hc : PE X c tc) (hd : PE X d td)
    (hm : lastMarks [op, op', op2] [b, c, d] = false := by with_unfolding_all rfl) : PT X (.Compare a [op, op', op2] [b, c, d] pos) (tTest (tCh3 r r' r2 ta tb tc td)) := by
  refine ⟨fun pins s σ H Q I h => ?_⟩
  refine isTrue_chain (thn (ha.run pins s σ H _ I h) fun v s1 ⟨x, H1, I1, r1, q1⟩ => test_link (thn (hb.run pins s1 σ H1 _ I1 q1) fun u s2 ⟨y, H2, I2, r2', q2⟩ =>
    thn (ho pins s2 σ H2 x y v u _ I2 r1 r2' q2) fun e s3 ⟨z, H3, I3, r3, k, ez, q3⟩ => ?_)) hm
  subst ez
  cases r3
  refine wpAny_truthy_bool ?_
  cases k with
  | false =>
    obtain ⟨k', e', q'⟩ := q3
    cases e'
    exact ite_ff ⟨H3, I3, q'⟩
  | true =>
    refine ite_tt (test_link (thn (hc.run pins s3 σ H3 _ I3 q3) fun u2 s4 ⟨z4, H4, I4, r4, q4⟩ => thn (ho' pins s4 σ H4 y z4 u u2 _ I4 r2' r4 q4) fun e5 s5 ⟨z5, H5, I5, r5, k5, ez5, q5⟩ => ?_))
    subst ez5
    cases r5
    refine wpAny_truthy_bool ?_
    cases k5 with
    | false =>
      obtain ⟨k', e', q'⟩ := q5
      cases e'
      exact ite_ff ⟨H5, I5, q'⟩
    | true =>
      refine ite_tt (test_last (thn (hd.run pins s5 σ H5 _ I5 q5) fun u6 s6 ⟨z6, H6, I6, r6, q6⟩ => thn (ho2 pins s6 σ H6 z4 z6 u2 u6 _ I6 r4 r6 q6) fun e7 s7 ⟨z7, H7, I7, r7, k7, ez7, q7⟩ => ?_))
      subst ez7
      cases r7
      exact wpAny_truthy_bool ⟨H7, I7, q7⟩
end
end L2
namespace L2
open PySem PySem.Spec PyProof.Rows
def numV : V → Bool | .int _ => true | _ => false
section
variable {K : PySem.W.Frag} {σ : St} {H : Hp} {p : Addr} {xs : List V} {te : TE} {tt : TT} {j : Nat} {vs : List Nat} {Q : VK} {v : V} {d : PyData}
theorem num_dp (h : Dp K H v d) : (isIntD d && !isBoolD d) = numV v := by cases h <;> rfl
theorem non_dp (h : Dp K H v d) : decide (v = .non) = isNoneD d := by cases h <;> simp [isNoneD]
/-- [f(x) for x in xs if b(x)] over a list or a tuple wherever it stands, what is tested and made only adding to the heap -/
theorem lc_sqG {Qd : Addr → Hp → Prop} {f : V → V} {b : V → Bool} (hx : SqL K H p xs ∨ SqT K H p xs) (hz : xs.length < sizeLine) (hw : ∀ x, wipe ((wipe σ vs).set j (some x)) vs = wipe σ vs)
    (ht : ∀ x ∈ xs, ∀ H', Ext H H' → ∀ Q : Bool → Hp → Prop, (∀ H'', Ext H' H'' → Q (b x) H'') → tt ((wipe σ vs).set j (some x)) H' Q)
    (he : ∀ x ∈ xs, b x = true → ∀ H', Ext H H' → ∀ Q : VK, (∀ H'', Ext H' H'' → Q (f x) H'') → te ((wipe σ vs).set j (some x)) H' Q)
    (q : ∀ D H', H D = none → Ext H H' → H' D = some (.lst ((xs.filter b).map f)) → Qd D H') :
    ((∃ xs, SqL K H p xs) ∧ (fun J H1 => ∀ D, H1 D = none → ∃ W : Nat → Nat → Hp → Prop, (∃ m, W 0 m (upd H1 D (.lst []))) ∧ ∀ i m H, W i m H →
      (J.stop i H ∧ Qd D H) ∨ (J.go i H ∧ ∃ Nx : Hp → Prop, (∀ H', Nx H' → ∃ m', m' < m ∧ W (i + 1) m' H') ∧ ∀ x H', J.yld i H x H' → gName j x (wipe σ vs) H' fun σ2 H2 => wipe σ2 vs = wipe σ vs ∧ tt σ2 H2 fun b H3 =>
        if b = true then te σ2 H3 fun y H4 => ∃ acc, H4 D = some (.lst acc) ∧ acc.length < sizeLine ∧ Nx (upd H4 D (.lst (acc ++ [y]))) else Nx H3)) (Itl K p) H) ∨
    ((∃ xs, SqT K H p xs) ∧ (fun J H1 => ∀ D, H1 D = none → ∃ W : Nat → Nat → Hp → Prop, (∃ m, W 0 m (upd H1 D (.lst []))) ∧ ∀ i m H, W i m H →
      (J.stop i H ∧ Qd D H) ∨ (J.go i H ∧ ∃ Nx : Hp → Prop, (∀ H', Nx H' → ∃ m', m' < m ∧ W (i + 1) m' H') ∧ ∀ x H', J.yld i H x H' → gName j x (wipe σ vs) H' fun σ2 H2 => wipe σ2 vs = wipe σ vs ∧ tt σ2 H2 fun b H3 =>
        if b = true then te σ2 H3 fun y H4 => ∃ acc, H4 D = some (.lst acc) ∧ acc.length < sizeLine ∧ Nx (upd H4 D (.lst (acc ++ [y]))) else Nx H3)) (Itt K p) H) := by
  have turn : ∀ (D : Addr), H D = none → ∀ i x H', xs[i]? = some x → (Ext H H' ∧ H' D = some (.lst (((xs.take i).filter b).map f))) → gName j x (wipe σ vs) H' fun σ2 H2 => wipe σ2 vs = wipe σ vs ∧ tt σ2 H2 fun b' H3 =>
      if b' = true then te σ2 H3 fun y H4 => ∃ acc, H4 D = some (.lst acc) ∧ acc.length < sizeLine ∧ (Ext H (upd H4 D (.lst (acc ++ [y]))) ∧ upd H4 D (.lst (acc ++ [y])) D = some (.lst (((xs.take (i + 1)).filter b).map f))) else (Ext H H3 ∧ H3 D = some (.lst (((xs.take (i + 1)).filter b).map f))) := by
    intro D hD i x H' hi pv
    obtain ⟨e, hl⟩ := pv
    have hm : x ∈ xs := List.mem_of_getElem? hi
    refine ⟨hw x, ht x hm H' e _ fun H3 e3 => ?_⟩
    have hl3 : H3 D = some (.lst (((xs.take i).filter b).map f)) := e3 _ _ hl
    cases hb : b x with
    | true =>
      refine iteT (he x hm hb H3 (e.trans e3) _ fun H4 e4 => ⟨_, e4 _ _ hl3, ?_, ext_mut ((e.trans e3).trans e4) hD, ?_⟩)
      · rw [List.length_map]
        refine Nat.lt_of_le_of_lt (Nat.le_trans (List.length_filter_le _ _) ?_) hz
        exact List.length_take_le' _ _
      · rw [upd_same, take_snoc hi, List.filter_append, List.map_append]
        simp [hb]
    | false =>
      refine iteF ⟨e.trans e3, ?_⟩
      rw [hl3, take_snoc hi, List.filter_append, List.map_append]
      simp [hb]
  have fin : ∀ D, H D = none → ∀ H', (Ext H H' ∧ H' D = some (.lst (((xs.take xs.length).filter b).map f))) → Qd D H' := fun D hD H' pv => by
    rw [List.take_length] at pv
    exact q D H' hD pv.1 pv.2
  rcases hx with hx | hx
  · refine .inl ⟨⟨xs, hx⟩, fun D hD => lc_list (xs := xs) (fun i H' => Ext H H' ∧ H' D = some (.lst (((xs.take i).filter b).map f))) ⟨Ext.upd hD, upd_same⟩ (fun i H' _ pv => hx.ext pv.1) (fun i x H' hi pv => turn D hD i x H' hi pv) (fun H' pv => fin D hD H' pv)⟩
  · refine .inr ⟨⟨xs, hx⟩, fun D hD => lc_tup (xs := xs) (fun i H' => Ext H H' ∧ H' D = some (.lst (((xs.take i).filter b).map f))) ⟨Ext.upd hD, upd_same⟩ (fun i H' _ pv => hx.ext pv.1) (fun i x H' hi pv => turn D hD i x H' hi pv) (fun H' pv => fin D hD H' pv)⟩
end
end L2

set_option Elab.async false
set_option maxRecDepth 100000
set_option maxHeartbeats 4000000
namespace L2
open PySem PySem.Spec PyProof.Rows
section
variable {X : Cx} {m : Str} {k : Nat} {ps : List Str} {sp : Sp} {e o : Expr} {es : List Expr} {t : TA} {ta : TE} {pos apos : Pos} {C : Addr} {W : WX}
/-- o.m(e, ..) that may raise; W is wished for what it raises -/
theorem pe_ownMS {pl : Sem Bool} (O : OwnM X.prog X.w X.K X.mg X.base (L2.CX X.prog X.w) C m k ps sp) (he : PE X o ta) (c : Cls X.K C) (hr : Room k X.A) (tk : Takes X W) (ha : PA X (e :: es) t)
    (hst : starEach (e :: es) X.env = (false, eval e X.env) :: starEach es X.env := by rfl) (hpl : (backTo pos (starEach es X.env)).any (·.1) = false := by rfl)
    (ht : eval (.Call (.Attribute o m apos) (e :: es) [] pos) X.env = (do
      let ov ← eval o X.env
      standAt apos.atName
      let (f, first) ← holding [ov] (getMethod ov m pl)
      callWith pos f first (backTo pos (starEach (e :: es) X.env)) (backToKw pos (keywordEach [] X.env))) := by rfl) :
    PE X (.Call (.Attribute o m apos) (e :: es) [] pos) (tMethSD C m sp [] (WE W) ta t) := by
  obtain ⟨f, fd, F, M, _, hb⟩ := O.ex
  exact pe_methSD he c M F hr hb .nil (fun σ => passAt tk σ) ha hst hpl ht
theorem PE.imp {ex : Expr} {t1 t2 : TE} (h : PE X ex t1) (i : ∀ σ H Q, t2 σ H Q → t1 σ H Q) : PE X ex t2 := ⟨fun pins s σ H Q I z => h.run pins s σ H Q I (i σ H Q z)⟩
end
end L2

set_option Elab.async false
set_option linter.all false
set_option maxRecDepth 100000
set_option maxHeartbeats 4000000
/-! tuples of own objects, compared by their own ==, whichever the answer -/
namespace GQ
open PySem PySem.SeqAt
open AutoSeq1 (wpAny_loadPart')
open MeetsSeq MeetsSeq2 MeetsSeq3 SeqRoads2
section
variable {prog : Program} {w : World} {A : Around} {R : Result → Shared → Prop}
/-- the places one by one: I goes on, J at the first two that differ -/
theorem tup_eqB (la lb : Addr) (xs ys : Array Value) (n n2 : Nat) (dd dd2 : Option Addr) (sl sl2 : Array (Option Value)) (hsz : xs.size = ys.size) (I : Nat → Shared → Prop) (J : Shared → Prop)
    (turn : ∀ i (h1 : i < xs.size) (h2 : i < ys.size) s, I i s → wpAny (model prog w) A.in1 (eqBool xs[i] ys[i]) (fun r s' => (r = true ∧ I (i + 1) s') ∨ (r = false ∧ J s')) (fun e s' => R (.error e) s') s)
    (finT : ∀ s, I xs.size s → R (.ok (.ret (.bool true))) s) (finF : ∀ s, J s → R (.ok (.ret (.bool false))) s) {s : Shared}
    (hla : s.heap.get? la = some { cls := .type "tuple", dict := dd, data := .seq xs n, slots := sl }) (hlb : s.heap.get? lb = some { cls := .type "tuple", dict := dd2, data := .seq ys n2, slots := sl2 }) (h : I 0 s) :
    wpAny (model prog w) A.in1 (Builtin.«tuple.__eq__» ⟨[.ref la, .ref lb], []⟩) (FinOf prog w A R) (fun e s' => R (.error e) s') s := by
  have f2 := AutoSeq1.sub_tuple_tuple
  have hZ : (xs.toList.zip ys.toList).length = xs.size := by simp [hsz]
  have h0 := h
  obtain ⟨hp, g, d, tk, os⟩ := s
  wp_walk using wpAny_loadPart' hla, wpAny_loadPart' hlb, wpAny_forIn_list _ (fun rest b s' => b.1 = none ∧ ∃ i, rest = (xs.toList.zip ys.toList).drop i ∧ i ≤ xs.size ∧ I i s') _
  case turn =>
    rintro ⟨y, x⟩ rest b s' ⟨hb', i, hz, hi, hI⟩
    have hlt : i < (xs.toList.zip ys.toList).length := by
      rcases Nat.lt_or_ge i (xs.toList.zip ys.toList).length with h' | h'
      · exact h'
      · rw [List.drop_of_length_le h'] at hz
        cases hz
    have h1 : i < xs.size := hZ ▸ hlt
    have h2 : i < ys.size := hsz ▸ h1
    rw [List.drop_eq_getElem_cons hlt] at hz
    injection hz with hyx hrest
    have hy : y = xs[i] := by
      have q := congrArg Prod.fst hyx
      simpa using q
    have hx : x = ys[i] := by
      have q := congrArg Prod.snd hyx
      simpa using q
    subst hy hx
    refine wpAny_bind (wpAny_mono (turn i h1 h2 s' hI) (fun r s2 q2 => ?_) fun _ _ x => x)
    rcases q2 with ⟨hr, q2⟩ | ⟨hr, q2⟩
    · subst hr
      wp_walk
      exact ⟨rfl, i + 1, hrest, h1, q2⟩
    · subst hr
      have hR : R (.ok (.ret (.bool false))) s2 := finF s2 q2
      wp_walk
      exact hR
  case fin =>
    rintro ⟨b1, b2⟩ s' ⟨hb', i, hz, hi, hI⟩
    simp only at hb'
    subst hb'
    have hge : xs.size ≤ i := by
      rcases Nat.lt_or_ge i (xs.toList.zip ys.toList).length with h' | h'
      · rw [List.drop_eq_getElem_cons h'] at hz
        cases hz
      · exact hZ ▸ h'
    have hi' : i = xs.size := by omega
    have hR : R (.ok (.ret (.bool true))) s' := finT s' (hi' ▸ hI)
    wp_walk
    simpa [Builtin.Tuple.tupleCompareSizes, hsz] using hR
  case h =>
    exact ⟨rfl, 0, rfl, Nat.zero_le _, h0⟩
/-- the same for != -/
theorem tup_neB (la lb : Addr) (xs ys : Array Value) (n n2 : Nat) (dd dd2 : Option Addr) (sl sl2 : Array (Option Value)) (hsz : xs.size = ys.size) (I : Nat → Shared → Prop) (J : Shared → Prop)
    (turn : ∀ i (h1 : i < xs.size) (h2 : i < ys.size) s, I i s → wpAny (model prog w) A.in1 (eqBool xs[i] ys[i]) (fun r s' => (r = true ∧ I (i + 1) s') ∨ (r = false ∧ J s')) (fun e s' => R (.error e) s') s)
    (finT : ∀ s, I xs.size s → R (.ok (.ret (.bool false))) s) (finF : ∀ s, J s → R (.ok (.ret (.bool true))) s) {s : Shared}
    (hla : s.heap.get? la = some { cls := .type "tuple", dict := dd, data := .seq xs n, slots := sl }) (hlb : s.heap.get? lb = some { cls := .type "tuple", dict := dd2, data := .seq ys n2, slots := sl2 }) (h : I 0 s) :
    wpAny (model prog w) A.in1 (Builtin.«tuple.__ne__» ⟨[.ref la, .ref lb], []⟩) (FinOf prog w A R) (fun e s' => R (.error e) s') s := by
  have f2 := AutoSeq1.sub_tuple_tuple
  have hZ : (xs.toList.zip ys.toList).length = xs.size := by simp [hsz]
  have h0 := h
  obtain ⟨hp, g, d, tk, os⟩ := s
  wp_walk using wpAny_loadPart' hla, wpAny_loadPart' hlb, wpAny_forIn_list _ (fun rest b s' => b.1 = none ∧ ∃ i, rest = (xs.toList.zip ys.toList).drop i ∧ i ≤ xs.size ∧ I i s') _
  case turn =>
    rintro ⟨y, x⟩ rest b s' ⟨hb', i, hz, hi, hI⟩
    have hlt : i < (xs.toList.zip ys.toList).length := by
      rcases Nat.lt_or_ge i (xs.toList.zip ys.toList).length with h' | h'
      · exact h'
      · rw [List.drop_of_length_le h'] at hz
        cases hz
    have h1 : i < xs.size := hZ ▸ hlt
    have h2 : i < ys.size := hsz ▸ h1
    rw [List.drop_eq_getElem_cons hlt] at hz
    injection hz with hyx hrest
    have hy : y = xs[i] := by
      have q := congrArg Prod.fst hyx
      simpa using q
    have hx : x = ys[i] := by
      have q := congrArg Prod.snd hyx
      simpa using q
    subst hy hx
    refine wpAny_bind (wpAny_mono (turn i h1 h2 s' hI) (fun r s2 q2 => ?_) fun _ _ x => x)
    rcases q2 with ⟨hr, q2⟩ | ⟨hr, q2⟩
    · subst hr
      wp_walk
      exact ⟨rfl, i + 1, hrest, h1, q2⟩
    · subst hr
      have hR : R (.ok (.ret (.bool true))) s2 := finF s2 q2
      wp_walk
      exact hR
  case fin =>
    rintro ⟨b1, b2⟩ s' ⟨hb', i, hz, hi, hI⟩
    simp only at hb'
    subst hb'
    have hge : xs.size ≤ i := by
      rcases Nat.lt_or_ge i (xs.toList.zip ys.toList).length with h' | h'
      · rw [List.drop_eq_getElem_cons h'] at hz
        cases hz
      · exact hZ ▸ h'
    have hi' : i = xs.size := by omega
    have hR : R (.ok (.ret (.bool false))) s' := finT s' (hi' ▸ hI)
    wp_walk
    simpa [Builtin.Tuple.tupleCompareSizes, bne, hsz] using hR
  case h =>
    exact ⟨rfl, 0, rfl, Nat.zero_le _, h0⟩
end
end GQ
namespace GQ
open PySem PySem.SeqAt
section
variable {prog : Program} {w : World} {A : Around} {E : Value → Shared → Prop} {s : Shared}
theorem rc_tupB {la lb : Addr} {xs ys : Array Value} {Q : Value → Shared → Prop} (hsz : xs.size = ys.size) (hu : A.units < cLine) (I : Nat → Shared → Prop) (J : Shared → Prop) (hla : s.heap.IsTuple la xs) (hlb : s.heap.IsTuple lb ys)
    (turn : ∀ i (h1 : i < xs.size) (h2 : i < ys.size) s, I i s → wpAny (model prog w) A.in1 (eqBool xs[i] ys[i]) (fun r s' => (r = true ∧ I (i + 1) s') ∨ (r = false ∧ J s')) E s)
    (finT : ∀ s, I xs.size s → Q (.bool true) s) (finF : ∀ s, J s → Q (.bool false) s) (h : I 0 s) : wpAny (model prog w) A (richCompare .Eq (.ref la) (.ref lb)) Q E s := by
  obtain ⟨⟨cls, dd, data, sl⟩, ho, hc, n, hd⟩ := id hla
  obtain ⟨⟨cls2, dd2, data2, sl2⟩, ho2, hc2, n2, hd2⟩ := id hlb
  simp only at hc hd hc2 hd2
  subst hc hd hc2 hd2
  refine wpAny_richCompare_same_room (op := .Eq) ⟨_, ho, rfl⟩ ⟨_, ho2, rfl⟩ F.slot_tuple_eq (call_here F.slot_tuple_eq ⟨_, ho, rfl⟩ F.entry_tuple_eq (F.args_tuple_eq_2 _ _) ?_) hu
  exact tup_eqB (R := wants (fun v s' => v ≠ .notImplemented ∧ Q v s') E) la lb xs ys n n2 dd dd2 sl sl2 hsz I J turn (fun s' q => ⟨(fun x => nomatch x), finT s' q⟩) (fun s' q => ⟨(fun x => nomatch x), finF s' q⟩) ho ho2 h
theorem rc_tupNB {la lb : Addr} {xs ys : Array Value} {Q : Value → Shared → Prop} (hsz : xs.size = ys.size) (hu : A.units < cLine) (I : Nat → Shared → Prop) (J : Shared → Prop) (hla : s.heap.IsTuple la xs) (hlb : s.heap.IsTuple lb ys)
    (turn : ∀ i (h1 : i < xs.size) (h2 : i < ys.size) s, I i s → wpAny (model prog w) A.in1 (eqBool xs[i] ys[i]) (fun r s' => (r = true ∧ I (i + 1) s') ∨ (r = false ∧ J s')) E s)
    (finT : ∀ s, I xs.size s → Q (.bool false) s) (finF : ∀ s, J s → Q (.bool true) s) (h : I 0 s) : wpAny (model prog w) A (richCompare .NotEq (.ref la) (.ref lb)) Q E s := by
  obtain ⟨⟨cls, dd, data, sl⟩, ho, hc, n, hd⟩ := id hla
  obtain ⟨⟨cls2, dd2, data2, sl2⟩, ho2, hc2, n2, hd2⟩ := id hlb
  simp only at hc hd hc2 hd2
  subst hc hd hc2 hd2
  refine wpAny_richCompare_same_room (op := .NotEq) ⟨_, ho, rfl⟩ ⟨_, ho2, rfl⟩ F.slot_tuple_ne (call_here F.slot_tuple_ne ⟨_, ho, rfl⟩ F.entry_tuple_ne (F.args_tuple_ne_2 _ _) ?_) hu
  exact tup_neB (R := wants (fun v s' => v ≠ .notImplemented ∧ Q v s') E) la lb xs ys n n2 dd dd2 sl sl2 hsz I J turn (fun s' q => ⟨(fun x => nomatch x), finT s' q⟩) (fun s' q => ⟨(fun x => nomatch x), finF s' q⟩) ho ho2 h
end
end GQ
namespace L2
open PySem PySem.Spec PyProof.Rows
/-- how two values compare, by the abstract heap -/
abbrev EqvB := V → V → Hp → Bool → Prop
def MonB (D : EqvB) : Prop := ∀ x y H H' k, Ext H H' → D x y H k → D x y H' k
def EqB (X : Cx) (n : Nat) (D : EqvB) : Prop :=
  ∀ (A : Around) (pins : List (Addr × Obj)) (s : Shared) (σ : St) (H : Hp) (x y : V) (u v : Value) (k : Bool), Sub X n A → Inv X pins σ H s → RelV x u → RelV y v → D x y H k →
    wpAny (model X.prog X.w) A (eqBool u v) (fun r s' => r = k ∧ ∃ H', Inv X pins σ H' s' ∧ Ext H H') X.xe s
def RcB (X : Cx) (n : Nat) (D : EqvB) : Prop :=
  ∀ (A : Around) (pins : List (Addr × Obj)) (s : Shared) (σ : St) (H : Hp) (x y : V) (u v : Value) (k : Bool), Sub X n A → Inv X pins σ H s → RelV x u → RelV y v → D x y H k →
    wpAny (model X.prog X.w) A (richCompare .Eq u v) (fun r s' => r = .bool k ∧ ∃ H', Inv X pins σ H' s' ∧ Ext H H') X.xe s
section
variable {X : Cx} {n : Nat} {D : EqvB}
/-- instances of the class at C -/
def DInsB (C : Addr) (R : Addr → Addr → Hp → Bool → Prop) : EqvB := fun x y H k => ∃ a b dx dy fs gs, x = .ref a ∧ y = .ref b ∧ H a = some (.ins C dx fs) ∧ H b = some (.ins C dy gs) ∧ R a b H k
def spEqB (R : Addr → Addr → Hp → Bool → Prop) : Sp := fun vs H Q _ => ∃ a b k, vs = [.ref a, .ref b] ∧ R a b H k ∧ ∀ H', Ext H H' → Q (.bl k) H'
theorem rcB_ins {CX : CXT} {C f : Addr} {fd : FuncData} {ps : List Str} {R : Addr → Addr → Hp → Bool → Prop} {E : XK} (F : FnOk X.prog X.w X.K X.mg X.base CX n f fd ps (spEqB R))
    (hs : PySem.W.findIn X.K (.ref C) "__eq__" = some (some (.ref f))) (hf : PySem.W.isFn X.K (.ref f) = true) (hb : Binds X.K fd ps []) (hx : Passes CX X E) : RcB X n (DInsB C R) := by
  intro A pins s σ H x y u v k sb I rx ry d
  obtain ⟨a, b, dx, dy, fs, gs, rfl, rfl, ha, hb', hr⟩ := d
  cases rx
  cases ry
  obtain ⟨mA, J, _⟩ := ins_get I.hok ha
  obtain ⟨mB, J', _⟩ := ins_get I.hok hb'
  obtain ⟨od, J, _⟩ := J.look
  obtain ⟨od', J', _⟩ := J'.look
  obtain ⟨m, hF⟩ := I.fr
  refine PySem.W.cmp_K (op := .Eq) (tb := .ref C) sb.room.units0 hF I.ok.mod.kin J J'.type (by simp [PySem.W.notFirst]) hs hf ?_
  have hsp : spEqB R [.ref a, .ref b] H (fun v H' => v = .bl k ∧ Ext H H') E := ⟨a, b, k, rfl, hr, fun H' e => ⟨rfl, e⟩⟩
  have e1 := I.env0
  have e0 : Env0 X.prog X.w X.K X.mg X.base A X.stack s H := ⟨by rw [sb.fr]; exact e1.frames, e1.mod, e1.bs, e1.bsz, e1.funs, e1.frf, e1.hok, e1.bare⟩
  have hl := F.len _ _ _ _ hsp
  have bd := hb s [.ref a, .ref b] I.kIn (by simpa using hl)
  have bd' : BindsTo s fd ⟨[.ref a, .ref b], []⟩ (ps.zip [.ref a, .ref b]) := by simpa using bd
  refine wpAny_call (codeAny_mono (F.run A X.stack s H ⟨[.ref a, .ref b], []⟩ [.ref a, .ref b] [.ref a, .ref b] _ E sb.room e0 bd' (.cons rfl (.cons rfl .nil)) hsp) fun r s' hq => ?_)
  match r, hq with
  | .error e, hq => exact hx pins σ H s e s' I hq
  | .ok (.ret z), hq =>
    obtain ⟨zv, H', I', rz, ez, ex⟩ := I.after hq
    subst ez
    cases rz
    exact ⟨rfl, H', I', ex⟩
  | .ok .next, hq => exact hq.elim
  | .ok .brk, hq => exact hq.elim
  | .ok .cont, hq => exact hq.elim
/-- within a tuple: the same object is equal to itself -/
theorem RcB.eqB (h : RcB X n D) (hr : ∀ x y H k, D x y H k → ∃ a b, x = .ref a ∧ y = .ref b ∧ (a = b → k = true)) : EqB X n D := by
  intro A pins s σ H x y u v k sb I rx ry d
  obtain ⟨a, b, rfl, rfl, hk⟩ := hr _ _ _ _ d
  cases rx
  cases ry
  by_cases hab : a = b
  · have hk' := hk hab
    subst hab hk'
    exact SeqAt.EqAt.same (A := A) (s := s) (.ref a) X.prog X.w X.xe _ ⟨rfl, H, I, Ext.rfl'⟩
  · refine GQ.eqBool_refG hab (wpAny_mono (h A pins s σ H (.ref a) (.ref b) _ _ k sb I rfl rfl d) (fun r s' q => ?_) fun _ _ x => x)
    obtain ⟨hr', q⟩ := q
    exact ⟨k, hr', rfl, q⟩
/-- tuples of one length, place by place; ks the answers -/
def DTupB (K : PySem.W.Frag) (D : EqvB) : EqvB := fun x y H k => ∃ (a b : Addr) (xs ys : List V) (ks : List Bool), x = .ref a ∧ y = .ref b ∧ SqT K H a xs ∧ SqT K H b ys ∧ xs.length = ys.length ∧ ks.length = xs.length ∧
  (∀ (i : Nat) x y c, xs[i]? = some x → ys[i]? = some y → ks[i]? = some c → D x y H c) ∧ k = ks.all id
theorem all_take {ks : List Bool} {i : Nat} (h : ∀ j, j < i → ks[j]? = some true) (hi : ks.length ≤ i) : ks.all id = true := by
  rw [List.all_eq_true]
  intro c hc
  obtain ⟨j, hj⟩ := List.mem_iff_getElem?.mp hc
  have hjl := (List.getElem?_eq_some_iff.mp hj).1
  have q := h j (Nat.lt_of_lt_of_le hjl hi)
  rw [hj] at q
  cases q
  rfl
theorem rcB_tup (hD : MonB D) (h : EqB X n D) : RcB X (n + 1) (DTupB X.K D) := by
  intro A pins s σ H x y u v k sb I rx ry d
  obtain ⟨a, b, xs, ys, ks, rfl, rfl, ha, hb, hlen, hks, hp, rfl⟩ := d
  cases rx
  cases ry
  obtain ⟨its, r, e, z⟩ := I.tuple ha
  obtain ⟨its2, r2, e2, z2⟩ := I.tuple hb
  have l1 := r.length
  have l2 := r2.length
  have hsz : its.toArray.size = its2.toArray.size := by rw [List.size_toArray, List.size_toArray, ← l1, ← l2]; exact hlen
  refine GQ.rc_tupB hsz sb.room.units0 (fun i s' => (∃ H', Inv X pins σ H' s' ∧ Ext H H') ∧ ∀ j, j < i → ks[j]? = some true) (fun s' => (∃ H', Inv X pins σ H' s' ∧ Ext H H') ∧ ks.all id = false) e e2 (fun i h1 h2 s' q => ?_) (fun s' q => ?_) (fun s' q => ?_) ⟨⟨H, I, Ext.rfl'⟩, fun j hj => absurd hj (Nat.not_lt_zero _)⟩
  · obtain ⟨⟨H1, I1, e1⟩, hk⟩ := q
    have h1' : i < its.length := by simpa using h1
    have h2' : i < its2.length := by simpa using h2
    have g1 : its[i]? = some its.toArray[i] := by rw [List.getElem?_eq_getElem h1'] <;> simp
    have g2 : its2[i]? = some its2.toArray[i] := by rw [List.getElem?_eq_getElem h2'] <;> simp
    have k1 : i < xs.length := by omega
    have k2 : i < ys.length := by omega
    have k3 : i < ks.length := by omega
    obtain ⟨uu, hu, ru⟩ := r.get (List.getElem?_eq_getElem k1)
    obtain ⟨vv, hv, rv⟩ := r2.get (List.getElem?_eq_getElem k2)
    rw [g1] at hu
    rw [g2] at hv
    rw [Option.some.inj hu, Option.some.inj hv]
    refine wpAny_mono (h A.in1 pins s' σ H1 _ _ uu vv ks[i] sb.in1 I1 ru rv (hD _ _ _ _ _ e1 (hp i _ _ _ (List.getElem?_eq_getElem k1) (List.getElem?_eq_getElem k2) (List.getElem?_eq_getElem k3)))) (fun rr s2 q2 => ?_) fun _ _ x => x
    obtain ⟨hr, H2, I2, e2'⟩ := q2
    have hki : ks[i]? = some rr := by rw [hr]; exact List.getElem?_eq_getElem k3
    cases rr with
    | true =>
      refine .inl ⟨rfl, ⟨H2, I2, e1.trans e2'⟩, fun j hj => ?_⟩
      rcases Nat.lt_succ_iff_lt_or_eq.mp hj with hj | rfl
      · exact hk j hj
      · exact hki
    | false =>
      refine .inr ⟨rfl, ⟨H2, I2, e1.trans e2'⟩, ?_⟩
      rw [List.all_eq_false]
      exact ⟨false, List.mem_of_getElem? hki, by decide⟩
  · obtain ⟨q1, hk⟩ := q
    exact ⟨by rw [all_take hk (by simp; omega)], q1⟩
  · obtain ⟨q1, hk⟩ := q
    exact ⟨by rw [hk], q1⟩
/-- the same for !=, told by what == would say -/
def RcNB (X : Cx) (n : Nat) (D : EqvB) : Prop :=
  ∀ (A : Around) (pins : List (Addr × Obj)) (s : Shared) (σ : St) (H : Hp) (x y : V) (u v : Value) (k : Bool), Sub X n A → Inv X pins σ H s → RelV x u → RelV y v → D x y H k →
    wpAny (model X.prog X.w) A (richCompare .NotEq u v) (fun r s' => r = .bool (!k) ∧ ∃ H', Inv X pins σ H' s' ∧ Ext H H') X.xe s
theorem rcNB_tup (hD : MonB D) (h : EqB X n D) : RcNB X (n + 1) (DTupB X.K D) := by
  intro A pins s σ H x y u v k sb I rx ry d
  obtain ⟨a, b, xs, ys, ks, rfl, rfl, ha, hb, hlen, hks, hp, rfl⟩ := d
  cases rx
  cases ry
  obtain ⟨its, r, e, z⟩ := I.tuple ha
  obtain ⟨its2, r2, e2, z2⟩ := I.tuple hb
  have l1 := r.length
  have l2 := r2.length
  have hsz : its.toArray.size = its2.toArray.size := by rw [List.size_toArray, List.size_toArray, ← l1, ← l2]; exact hlen
  refine GQ.rc_tupNB hsz sb.room.units0 (fun i s' => (∃ H', Inv X pins σ H' s' ∧ Ext H H') ∧ ∀ j, j < i → ks[j]? = some true) (fun s' => (∃ H', Inv X pins σ H' s' ∧ Ext H H') ∧ ks.all id = false) e e2 (fun i h1 h2 s' q => ?_) (fun s' q => ?_) (fun s' q => ?_) ⟨⟨H, I, Ext.rfl'⟩, fun j hj => absurd hj (Nat.not_lt_zero _)⟩
  · obtain ⟨⟨H1, I1, e1⟩, hk⟩ := q
    have h1' : i < its.length := by simpa using h1
    have h2' : i < its2.length := by simpa using h2
    have g1 : its[i]? = some its.toArray[i] := by rw [List.getElem?_eq_getElem h1'] <;> simp
    have g2 : its2[i]? = some its2.toArray[i] := by rw [List.getElem?_eq_getElem h2'] <;> simp
    have k1 : i < xs.length := by omega
    have k2 : i < ys.length := by omega
    have k3 : i < ks.length := by omega
    obtain ⟨uu, hu, ru⟩ := r.get (List.getElem?_eq_getElem k1)
    obtain ⟨vv, hv, rv⟩ := r2.get (List.getElem?_eq_getElem k2)
    rw [g1] at hu
    rw [g2] at hv
    rw [Option.some.inj hu, Option.some.inj hv]
    refine wpAny_mono (h A.in1 pins s' σ H1 _ _ uu vv ks[i] sb.in1 I1 ru rv (hD _ _ _ _ _ e1 (hp i _ _ _ (List.getElem?_eq_getElem k1) (List.getElem?_eq_getElem k2) (List.getElem?_eq_getElem k3)))) (fun rr s2 q2 => ?_) fun _ _ x => x
    obtain ⟨hr, H2, I2, e2'⟩ := q2
    have hki : ks[i]? = some rr := by rw [hr]; exact List.getElem?_eq_getElem k3
    cases rr with
    | true =>
      refine .inl ⟨rfl, ⟨H2, I2, e1.trans e2'⟩, fun j hj => ?_⟩
      rcases Nat.lt_succ_iff_lt_or_eq.mp hj with hj | rfl
      · exact hk j hj
      · exact hki
    | false =>
      refine .inr ⟨rfl, ⟨H2, I2, e1.trans e2'⟩, ?_⟩
      rw [List.all_eq_false]
      exact ⟨false, List.mem_of_getElem? hki, by decide⟩
  · obtain ⟨q1, hk⟩ := q
    exact ⟨by rw [all_take hk (by simp; omega)]; rfl, q1⟩
  · obtain ⟨q1, hk⟩ := q
    exact ⟨by rw [hk]; rfl, q1⟩
/-- x == y, x != y as expressions -/
def rEqB (D : EqvB) : R2 := fun x y H Q => ∃ k, D x y H k ∧ ∀ H', Ext H H' → Q (.bl k) H'
def rNeB (D : EqvB) : R2 := fun x y H Q => ∃ k, D x y H k ∧ ∀ H', Ext H H' → Q (.bl (!k)) H'
theorem op_eqB (h : RcB X n D) (hr : Room n X.A) : OpR X (compareOp .Eq) (rEqB D) := by
  intro pins s σ H x y v u Q I rx ry hq
  obtain ⟨k, d, q⟩ := hq
  show wpAny (model X.prog X.w) X.A (richCompare .Eq v u) (EP X pins σ Q) X.xe s
  refine wpAny_mono (h X.A pins s σ H x y v u k ⟨hr, rfl⟩ I rx ry d) (fun r s' z => ?_) fun _ _ x => x
  obtain ⟨hr', H', I', e⟩ := z
  subst hr'
  exact ⟨.bl k, H', I', rfl, q H' e⟩
theorem op_neB (h : RcNB X n D) (hr : Room n X.A) : OpR X (compareOp .NotEq) (rNeB D) := by
  intro pins s σ H x y v u Q I rx ry hq
  obtain ⟨k, d, q⟩ := hq
  show wpAny (model X.prog X.w) X.A (richCompare .NotEq v u) (EP X pins σ Q) X.xe s
  refine wpAny_mono (h X.A pins s σ H x y v u k ⟨hr, rfl⟩ I rx ry d) (fun r s' z => ?_) fun _ _ x => x
  obtain ⟨hr', H', I', e⟩ := z
  subst hr'
  exact ⟨.bl (!k), H', I', rfl, q H' e⟩
end
end L2

set_option Elab.async false
set_option linter.all false
set_option maxRecDepth 100000
set_option maxHeartbeats 4000000
/-! except A as e: .. except B as e: ..; classes made with keyword-only parameters -/
namespace L2
open PySem PySem.Spec PyProof.Rows
abbrev SuT := Addr → Value → Option Addr → TS
/-- behind a suite the i-th slot is empty -/
def dropAt (i : Nat) (D : Ends) : Ends := { nx := fun g J => D.nx (g.set i none) J, rt := D.rt, bk := fun g J => D.bk (g.set i none) J, ct := fun g J => D.ct (g.set i none) J }
def wManyA (K : PySem.W.Frag) (Wo : WX) (D : Ends) : List (Value × Nat × SuT) → WX
  | [] => Wo
  | (c, i, ts) :: r => fun cl d g J => ∃ y, PySem.W.exmOne K cl c = some y ∧ (y = true → ∀ q, J q = none → ts q cl d (dropAt i D) (g.set i (some (.ref q))) J) ∧ (y = false → wManyA K Wo D r cl d g J)
inductive HdsA (X : Cx) : List ExceptHandler → List (Value × Nat × SuT) → Prop
  | nil : HdsA X [] []
  | cons {x n : Str} {c : Value} {i : Nat} {ts : SuT} {b0 : Stmt} {su : List Stmt} {np pp : Pos} {hds : List ExceptHandler} {l : List (Value × Nat × SuT)} (hi : X.N[i]? = some n) (hl : X.env.kindOf n = some .local) (hc : Names X x c)
      (hsu : ∀ (q : Addr) (oq : Obj) (cl : Value) (d : Option Addr) (pn : List (Addr × Obj)), Zc cl d oq → (∃ us, oq.data = .fields us) → PSs (X.suite q ((q, oq) :: pn)) (b0 :: su) (ts q cl d)) (r : HdsA X hds l) :
      HdsA X (.ExceptHandler (some (.Name x np)) (some n) (b0 :: su) pp :: hds) ((c, i, ts) :: l)
section
variable {X : Cx} {bd : List Stmt} {hd0 : ExceptHandler} {hds : List ExceptHandler} {l : List (Value × Nat × SuT)} {pos : Pos} {tb : WX → TS} {Wo : WX}
theorem ps_try_manyA (hs : X.stack = X.env :: X.outer) (hf : X.env.frame = some X.env.locals) (hN : X.N.Nodup) (tk : Takes X Wo)
    (hb : ∀ (W : WX) (pn : List (Addr × Obj)) (xe : Value → Shared → Prop), Takes (X.tr pn xe) W → PassesOwn (model X.prog X.w) X.A X.env xe → PSs (X.tr pn xe) bd (tb W))
    (hh : HdsA X (hd0 :: hds) l) : PS X (.Try bd (hd0 :: hds) [] [] pos) (fun D g J => tb (wManyA X.K Wo D l) D g J) := by
  refine ⟨fun pins s0 g0 J0 D I0 h => ?_⟩
  have kk := I0.ok
  have hfr : X.A.frames = some (X.env :: X.outer) := by rw [kk.frames, hs]
  refine wpAny_Try_except (wpAny_mono ((hb (wManyA X.K Wo D l) (X.pn ++ pins) (fun u t1 => wpAny (model X.prog X.w) X.A (noteFrame u X.env) (fun _ t2 => wpAny (model X.prog X.w) X.A (setFlight u none) (fun _ t3 =>
    wpAny (model X.prog X.w) X.A (handleBy u X.env (hd0 :: hds)) (SP X pins D) X.xe t3) X.xe t2) X.xe t1) (fun u t1 xx => ?_) PassesOwn.looking).run [] s0 g0 J0 D (I0.toTry _) h) (fun fl t1 hsp => ?_) (fun _ _ z => z))
  · obtain ⟨q, B, sI, pns, g1, J1, cl, d, rfl, K1, nb, up, sky, na, os, ag, wx⟩ := xx
    have V : Inv X pins g1 J1 sI := K1.ofTry kk
    have sky2 : Sky B (X.env :: X.outer) q (Zc cl d) X.env.locals t1.heap := by rw [← hs]; exact sky
    show wpAny (model X.prog X.w) X.A (noteFrame (.ref q) X.env) _ _ _
    refine Sky.land Zc.steady hfr hf sky2 fun h3 f3 u3 => ?_
    have V3 : Inv X pins g1 J1 { t1 with heap := h3 } := V.landed nb f3.1 (up.trans u3) os ag
    obtain ⟨o3, v3, e3, z3, d3⟩ := f3.there
    have apart : ∀ {hh : Heap} {o : Obj} {us : Array Value}, hh.FunFrames B (X.env :: X.outer) → hh.get? q = some o → o.data = .fields us → q ∉ frs (X.env :: X.outer) := fun {hh o us} ff e dd hm => by
      obtain ⟨_, o', e', hnf⟩ := ff.mem hm
      rw [e] at e'
      cases e'
      exact hnf _ dd
    have np := apart f3.2.2.1 e3 d3
    have nL : q ≠ X.env.locals := fun z => np (List.mem_filterMap.mpr ⟨X.env, List.mem_cons_self, by rw [hf, z]⟩)
    have nF : q ∉ X.fs := fun hm => by
      obtain ⟨e, he, r⟩ := List.mem_filterMap.mp hm
      exact np (List.mem_filterMap.mpr ⟨e, List.mem_cons_of_mem _ he, r⟩)
    have S3 := V3.suite e3 d3 na nL nF
    have go : ∀ {hz : List ExceptHandler} {lz : List (Value × Nat × SuT)}, HdsA X hz lz → wManyA X.K Wo D lz cl d g1 J1 → wpAny (model X.prog X.w) X.A (handleBy (.ref q) X.env hz) (SP X pins D) X.xe { t1 with heap := h3 } := by
      intro hz lz hk
      induction hk with
      | nil =>
        intro wz
        refine wpAny_handleBy_nil ?_
        obtain ⟨_, _, _, oq, us, TB, oT, ts2, he, hq, hdd, h1, hr⟩ := id f3
        unfold PySem.passOn
        refine wpAny_bind (wpAny_field he hdd h1 ?_)
        rw [if_neg (show ¬ ((Value.ref TB == Value.none) = true) by simp)]
        have fin : wpAny (model X.prog X.w) X.A (setFlight (.ref q) X.env.frame) (fun _ t4 => wpAny (model X.prog X.w) X.A (throw (.ref q) : Sem Flow) (SP X pins D) X.xe t4) X.xe { t1 with heap := h3 } := by
          rw [hf]
          refine HandSPX.setFlight_upZ f3 fun h4 hh4 up4 => wpAny_throw (tk _ _ ?_)
          exact ⟨q, B, sI, pins, g1, J1, cl, d, rfl, V, nb, (up.trans u3).trans up4, .inr (.inr (by rw [hs]; exact hh4)), na, os, ag, wz⟩
        first | exact wpAny_bind (wpAny_pure (wpAny_bind fin)) | exact wpAny_bind fin
      | @cons x n c i ts b0 su np pp hds2 l2 hi hl hc hsu r ih =>
        intro wz
        obtain ⟨y, hy, yes, no⟩ := wz
        refine wpAny_handleBy_cons (codeAny_handlers_test ?_) (by intro z; cases z)
        have LT : PySem.W.Looks (model X.prog X.w) h3 (typeOf (.ref q)) cl := fun A Q E s k r => wpAny_typeOf_ref (k _ _ e3) (by rw [z3.1]; exact r)
        have LM := PySem.W.exm_one (M := model X.prog X.w) (V3.kIn) LT hy
        have tst : ∀ {Q E : Value → Shared → Prop}, Q c { t1 with heap := h3 } → wpAny (model X.prog X.w) (X.A.mark (some (.ref q))) (eval (.Name x np) X.env) Q E { t1 with heap := h3 } := fun {Q E} z => by
          obtain ⟨hg, hdbg, hm | ⟨hm, hv, hnn⟩⟩ := hc
          · exact ld_glob (X := X.suite q ((q, o3) :: (X.pn ++ pins))) S3 hg hm z hdbg
          · exact ld_blt (X := X.suite q ((q, o3) :: (X.pn ++ pins))) S3 hg hm hv z hnn hdbg
        refine tst (LM.here ?_)
        cases y with
        | true =>
          refine codeAny_handlers_suite_as (HandSPX.lands_againZ f3 fun h4 f4 u4 => ?_)
          have V4 : Inv X pins g1 J1 { t1 with heap := h4 } := V.landed nb f4.1 ((up.trans u3).trans u4) os ag
          obtain ⟨o4, v4, e4, z4, d4⟩ := f4.there
          have S4 := V4.suite e4 d4 na nL nF
          have hloc : Loc X.env.scope n := .inl hl
          refine store_ok (X := X.suite q ((q, o4) :: (X.pn ++ pins))) (v := .ref q) S4 hN hi hloc rfl (fun t5 S5 => ?_) (.inr hl)
          refine wpAny_mono ((hsu q o4 cl d (X.pn ++ pins) z4 ⟨_, d4⟩).run [] t5 _ J1 _ S5 (yes rfl q na)) (fun fl t6 sp => ?_) (fun _ _ z => False.elim z)
          have ends : ∀ {g6 : St} {J6 : Hp} {Q : Shared → Prop}, Inv (X.suite q ((q, o4) :: (X.pn ++ pins))) [] g6 J6 t6 → (∀ t7, Inv X pins (g6.set i none) J6 t7 → Q t7) →
              wpAny (model X.prog X.w) X.A (do bindName X.env n .none; unbindBehindTheSuite X.env n pp) (fun _ t7 => Q t7) X.xe t6 := fun {g6 J6 Q} S6 hq => gone_ok (S6.unsuite kk) hN hi hl hq
          cases fl with
          | next =>
            obtain ⟨g6, J6, S6, r6⟩ := sp
            exact ends S6 fun t7 V7 => ⟨_, _, V7, r6⟩
          | brk =>
            obtain ⟨g6, J6, S6, r6⟩ := sp
            exact ends S6 fun t7 V7 => ⟨_, _, V7, r6⟩
          | cont =>
            obtain ⟨g6, J6, S6, r6⟩ := sp
            exact ends S6 fun t7 V7 => ⟨_, _, V7, r6⟩
          | ret u =>
            obtain ⟨w6, g6, J6, S6, r6, y6⟩ := sp
            exact ends S6 fun t7 V7 => ⟨_, _, _, V7, r6, y6⟩
        | false =>
          show wpAny _ X.A (handleBy (.ref q) X.env hds2) _ _ _
          exact ih (no rfl)
    exact go hh wx
  · cases fl with
    | next =>
      obtain ⟨g6, J6, V6, r⟩ := hsp
      exact wpAny_execs_nil ⟨g6, J6, V6.ofTry kk, r⟩
    | brk =>
      obtain ⟨g6, J6, V6, r⟩ := hsp
      exact ⟨g6, J6, V6.ofTry kk, r⟩
    | cont =>
      obtain ⟨g6, J6, V6, r⟩ := hsp
      exact ⟨g6, J6, V6.ofTry kk, r⟩
    | ret u =>
      obtain ⟨v6, g6, J6, V6, rv, r⟩ := hsp
      exact ⟨v6, g6, J6, V6.ofTry kk, rv, r⟩
end
/-! ### C(e, .., k = v, ..), keyword-only parameters without defaults, all written in their order -/
section
variable {K : PySem.W.Frag} {x qual : Str} {st : Stmt} {f : Addr} {fd : FuncData} {ps ks : List Str} {n : Nat}
abbrev KBa (K : PySem.W.Frag) (fd : FuncData) (ps : List Str) (n : Nat) (ks : List Str) : Prop := KBn K fd ps n ks (fun us ws => us ++ ws) (fun vs zs => vs ++ zs)
theorem Fun.kba (F : Fun K x qual st f fd)
    (h : ∀ (kV doc pm : Value) (an : Option Addr) (cdv ct : Value) (us ws : List Value), us.length = n → ws.length = ks.length → bindArgs (PySem.W.fnOf x qual (defArgs st) (defBody st) (defScope st) .none kV doc pm an cdv ct) ⟨us, ks.zip ws⟩ = pure (ps.zip (us ++ ws))) : KBa K fd ps n ks := by
  obtain ⟨_, _, kV, doc, pm, an, cdv, ct, _, rfl, _, _⟩ := F.ex
  exact ⟨fun s us ws _ l1 l2 => .of_eq (h kV doc pm an cdv ct us ws l1 l2), fun r1 r2 => r1.append r2⟩
end
structure OwnCK (P : Program) (w : World) (K : PySem.W.Frag) (mg : Str → Option Value) (base : Heap) (CX : CXT) (x : Str) (C : Addr) (k : Nat) (ps : List Str) (n : Nat) (ks : List Str) (sp : Sp) : Prop where
  ex : ∃ (f : Addr) (fd : FuncData), FnOk P w K mg base CX k f fd ps sp ∧ Mk K C f ∧ mg x = some (.ref C) ∧ KBa K fd ps (n + 1) ks
section
variable {X : Cx} {CX : CXT} {k n : Nat} {f C : Addr} {fd : FuncData} {ps ks : List Str} {sp : Sp} {E : St → XK} {x : Str} {p pos : Pos} {e : Expr} {es : List Expr} {kws : List Keyword} {t tk : TA} {W : WX}
/-- the errors wished at the slots -/
def tMakeKS (C : Addr) (n m : Nat) (sp : Sp) (E : St → XK) (t tk : TA) : TE := fun g J Q => t g J fun vs J1 => tk g J1 fun zs J2 => vs.length = n ∧ zs.length = m ∧ ∀ o dx, J2 o = none → J2 dx = none → dx ≠ o →
  sp (.ref o :: vs ++ zs) (upd (upd J2 dx (.own o)) o (.ins C dx [])) (fun v J3 => v = .non ∧ Q (.ref o) J3) (fun cl d J3 => E g cl d J3)
theorem run_makeKS {pins : List (Addr × Obj)} {g : St} {J : Hp} {s : Shared} {Q : VK} {us ws : List Value} {vs zs : List V} (M : Mk X.K C f) (F : FnOk X.prog X.w X.K X.mg X.base CX k f fd ps sp) (hr : Room (k + 1) X.A) (hb : KBa X.K fd ps (n + 1) ks) (hx : PassesAt CX X g (E g))
    (I : Inv X pins g J s) (r : Vals vs us) (rz : Vals zs ws) (l1 : vs.length = n) (l2 : zs.length = ks.length)
    (h : ∀ o dx, J o = none → J dx = none → dx ≠ o → sp (.ref o :: vs ++ zs) (upd (upd J dx (.own o)) o (.ins C dx [])) (fun v J2 => v = .non ∧ Q (.ref o) J2) (E g)) :
    wpAny (model X.prog X.w) X.A (call (.ref C) us (ks.zip ws)) (EP X pins g Q) X.xe s := by
  have want := h (s.heap.objs.size + 1) s.heap.objs.size (I.hok.fresh (Nat.le_succ _)) (I.hok.fresh (Nat.le_refl _)) (Nat.ne_of_lt (Nat.lt_succ_self _))
  have I2 := Inv.made (C := C) I
  have m1 : Vals (V.ref (s.heap.objs.size + 1) :: vs) (Value.ref (s.heap.objs.size + 1) :: us) := .cons rfl r
  have m2 := hb.rel m1 rz
  have k1 : (Value.ref (s.heap.objs.size + 1) :: us).length = n + 1 := by rw [List.length_cons, ← r.length, l1]
  refine wpAny_call (make_map (f := f) I.kIn M.makes M.init (beq_iff_eq.mp M.fn) (codeAny_mono (F.run _ X.stack _ _ ⟨Value.ref (s.heap.objs.size + 1) :: us, ks.zip ws⟩ (Value.ref (s.heap.objs.size + 1) :: us ++ ws) _ _ (E g) (hr.make C us (ks.zip ws))
    (I2.env0.make C us (ks.zip ws)) (hb.to _ (Value.ref (s.heap.objs.size + 1) :: us) ws I2.kIn k1 (rz.length.symm.trans l2)) m2 want) fun z t1 hz => ?_))
  cases z with
  | error u => exact hx pins _ _ u t1 I2 hz
  | ok fl =>
    cases fl with
    | ret u =>
      obtain ⟨v, J3, I3, rv, ev, q3⟩ := I2.after hz
      subst ev
      exact ⟨rv, ⟨V.ref (s.heap.objs.size + 1), J3, I3, rfl, q3⟩⟩
    | next => exact False.elim hz
    | brk => exact False.elim hz
    | cont => exact False.elim hz
theorem pe_newKS (O : OwnCK X.prog X.w X.K X.mg X.base (L2.CX X.prog X.w) x C k ps n ks sp) (hr : Room (k + 1) X.A) (tw : Takes X W) (ha : PA X (e :: es) t) (hkw : PK X kws tk) (hg : Gl X x := by rfl)
    (hall : (backToKw pos (keywordEach kws X.env)).all (·.1.isSome) = true := by rfl) (hks : (backToKw pos (keywordEach kws X.env)).filterMap (·.1) = ks := by rfl) (hdb : (x == ("__debug__" : Str)) = false := by decide)
    (he : starEach (e :: es) X.env = (false, eval e X.env) :: starEach es X.env := by rfl) (hpl : ((backTo pos (starEach (e :: es) X.env)).any (·.1) || (backToKw pos (keywordEach kws X.env)).any (·.1.isNone)) = false := by rfl) :
    PE X (.Call (.Name x p) (e :: es) kws pos) (tMakeKS C n ks.length sp (WE W) t tk) := by
  obtain ⟨f, fd, F, M, hm, hb⟩ := O.ex
  refine ⟨fun pins s g J Q I h => wpAny_Call_Name_kw (ld_glob I hg hm ?_ hdb)⟩
  refine PySem.W.callWith_KW (h₀ := X.base) I.ok.mod.kin M.kp hall (thn (ha.run pos pins s g J _ I h) fun us s1 ⟨vs, J1, I1, r, q⟩ => ?_) hpl he
  refine thn (hkw.run pos pins s1 g J1 _ I1 q) fun ws s2 ⟨zs, J2, I2, rz, l1, l2, q2⟩ => ⟨I2.kIn, ?_⟩
  rw [hks]
  exact run_makeKS M F hr hb (passAt tw g) I2 r rz l1 l2 q2
end
section
variable {X : Cx} {e : Expr} {f : Str} {pos : Pos} {ta : TE}
/-- e.f where the context is not known yet -/
theorem pe_fldA (he : PE X e ta) (hb : attributeBase e f X.env (eval e X.env) = eval e X.env := by rfl) : PE X (.Attribute e f pos) (tFld X.K ta f) := pe_fld he hb
end
end L2

set_option Elab.async false
set_option maxRecDepth 100000
set_option maxHeartbeats 4000000
/-! slices and sums of tuples, whichever object it is -/
namespace L2
open PySem PySem.Spec PyProof.Rows
section
variable {X : Cx}
theorem cut_whole {xs : List V} {lo hi : Option Int} (h : HT.sIx xs.length 0 lo = 0 ∧ HT.sIx xs.length xs.length hi = xs.length) : cutV xs lo hi = xs := by
  unfold cutV
  rw [h.1, h.2]
  simp
/-- a slice of a tuple, whichever object it is -/
def rSlE : V → Option Int → Option Int → Hp → VK → Prop := fun x lo hi H Q => ∃ a xs, x = .ref a ∧ H a = some (.tup xs) ∧ ∀ p H', Ext H H' → H' p = some (.tup (cutV xs lo hi)) → Q (.ref p) H'
theorem sl_tupE : SlR X rSlE := by
  intro pins s σ H x v vl vu lo hi sl Q I rx hs pl pu h
  obtain ⟨a, xs, rfl, ha, q⟩ := h
  exact sl_tupA pins s σ H _ v vl vu lo hi sl Q I rx hs pl pu ⟨a, xs, rfl, SqT.of ha, fun hw => q a H Ext.rfl' (by rw [cut_whole hw]; exact ha), fun _ p hp => q p _ (Ext.upd hp) upd_same⟩
/-- the sum of two tuples, whichever object it is -/
def rCatE : R2 := fun x y H Q => ∃ a b xs ys, x = .ref a ∧ y = .ref b ∧ H a = some (.tup xs) ∧ H b = some (.tup ys) ∧ xs.length + ys.length ≤ sizeLine ∧ ∀ p H', Ext H H' → H' p = some (.tup (xs ++ ys)) → Q (.ref p) H'
theorem op_catE : OpR X (binaryOp .Add) rCatE := by
  intro pins s σ H x y v u Q I rx ry h
  obtain ⟨a, b, xs, ys, rfl, rfl, ha, hb, hz, q⟩ := h
  refine op_catA pins s σ H _ _ v u Q I rx ry ⟨a, b, xs, ys, rfl, rfl, SqT.of ha, SqT.of hb, hz, fun e => q b H Ext.rfl' ?_, fun _ e => q a H Ext.rfl' ?_, fun _ _ p hp => q p _ (Ext.upd hp) upd_same⟩
  · subst e
    exact hb
  · subst e
    rw [List.append_nil]
    exact ha
end
end L2

set_option Elab.async false
set_option linter.all false
set_option maxRecDepth 100000
set_option maxHeartbeats 4000000
/-! one of two readings; tuple.index of flat items; an own __contains__ -/
namespace PySem.W
open PySem PySem.Calls PyProof.Rows
section
variable {prog : Program} {w : World} {A : Around} {E : Value → Shared → Prop} {s : Shared} {K : Frag} {x C f : Addr} {ox : Obj} {od : Option Obj}
theorem contains_fn {v : Value} {Q : Bool → Shared → Prop} (X : K.In s.heap) (I : InstAt s.heap x ox C od) (hs : findIn K (.ref C) "__contains__" = some (some (.ref f))) (hf : isFn K (.ref f) = true)
    (h : wpAny (model prog w) A (call (.ref f) [.ref x, v]) (fun r s' => ∃ b, r = .bool b ∧ Q b s') E s) : wpAny (model prog w) A (contains (.ref x) v) Q E s := by
  unfold contains
  refine wpAny_holding ?_
  have e1 : stdlibNamesSay? (.ref x) v = none := rfl
  rw [e1]
  refine wpAny_bind (wpAny_bind (I.type.here ((looks_findIn X hs).here ?_)))
  show wpAny _ _ (if (some (Value.ref f) == some Value.none) = true then _ else _) _ _ _
  rw [if_neg (by simp)]
  refine wpAny_bind (m := callSpecialUnlessNone? (.ref x) _ _ _) ?_
  unfold callSpecialUnlessNone?
  refine wpAny_bind (wpAny_bind (I.type.here ((looks_findIn X hs).here ?_)))
  refine wpAny_holding (wpAny_bind ((bind_fn X _ (beq_iff_eq.mp hf)).here ?_))
  show wpAny _ _ (if (Value.ref f == Value.none) = true then _ else _) _ _ _
  rw [if_neg (by simp)]
  refine wpAny_bind (wpAny_mono h (fun r s' z => ?_) fun _ _ z => z)
  obtain ⟨b, rfl, q⟩ := z
  exact wpAny_pure (wpAny_truthy_bool q)
end
end PySem.W
namespace L2
open PySem PySem.Spec PyProof.Rows
section
variable {X : Cx}
theorem pe_either {ex : Expr} {t1 t2 : TE} (h1 : PE X ex t1) (h2 : PE X ex t2) : PE X ex (fun g J Q => t1 g J Q ∨ t2 g J Q) := ⟨fun pins s g J Q I h => h.elim (fun z => h1.run pins s g J Q I z) (fun z => h2.run pins s g J Q I z)⟩
def rIndexT (K : PySem.W.Frag) : V → List V → Hp → VK → Prop := fun o vs J Q => ∃ (p : Addr) (ts : List V) (e : V) (n : Nat) (c : V), o = V.ref p ∧ vs = [e] ∧ SqT K J p ts ∧ flatV e = true ∧ ts.all flatV = true ∧ ts[n]? = some c ∧ eqV c e = true ∧
  (∀ (m : Nat) (c' : V), m < n → ts[m]? = some c' → eqV c' e = false) ∧ Q (.int (n : Nat)) J
theorem mt_tupIndex : MtR X "tuple.index" (rIndexT X.K) := by
  intro pins s g J o vs v us Q I ro rvs h
  obtain ⟨p, ts, e, n, c, rfl, rfl, ht, fe, fts, hc, hce, no, q⟩ := h
  cases ro
  cases rvs with
  | cons re rt =>
    rename_i ue ut
    cases rt
    obtain ⟨its, rv, ⟨⟨cls, dd, dt, sl⟩, ho, hcl, nn, hd⟩, hz⟩ := I.tuple ht
    simp only at hcl hd
    subst hcl hd
    obtain ⟨u, hu, ru⟩ := rv.get hc
    obtain ⟨nl, ne⟩ := List.getElem?_eq_some_iff.mp hu
    have hvl := rv.length
    have hn : n < its.toArray.size := by simpa using nl
    refine call_meets PySem.F.slot_tuple_index ⟨_, ho, rfl⟩ PySem.F.entry_tuple_index (PySem.F.args_tuple_index_2 _ _) (TI.tuple_indexAt p its.toArray nn dd sl ue (eqU e) n hn ?_ ?_)
      ⟨ho, fun w hw => mem_eqAt re fe rv fts w (by simpa using hw), ?_⟩
    · have e1 : its.toArray[n] = u := by simpa using ne
      rw [e1, eqU_of ru (flat_at fts hc)]
      exact hce
    · intro m hm hmn
      have ml : m < its.length := by simpa using hm
      have mt : m < ts.length := by omega
      have gm : ts[m]? = some ts[m] := List.getElem?_eq_getElem mt
      obtain ⟨u2, hu2, ru2⟩ := rv.get gm
      obtain ⟨_, me⟩ := List.getElem?_eq_some_iff.mp hu2
      have e2 : its.toArray[m] = u2 := by simpa using me
      rw [e2, eqU_of ru2 (flat_at fts gm)]
      exact no m _ hmn gm
    · exact ⟨.int (n : Nat), J, I.tok _, ⟨_, rfl⟩, q⟩
end
section
variable {X : Cx} {CX : CXT} {k : Nat} {f C : Addr} {fd : FuncData} {ps : List Str} {sp : Sp}
/-- x in o, o an instance of the class at C with an own __contains__ -/
def rInO (C : Addr) (sp : Sp) : R2 := fun x y H Q => ∃ a dx fs, y = .ref a ∧ H a = some (.ins C dx fs) ∧ sp [y, x] H (fun v H' => ∃ b, v = .bl b ∧ Q (.bl b) H') E0
theorem op_inO (F : FnOk X.prog X.w X.K X.mg X.base CX k f fd ps sp) (hs : PySem.W.findIn X.K (.ref C) "__contains__" = some (some (.ref f))) (hf : PySem.W.isFn X.K (.ref f) = true) (hr : Room k X.A) (hb : Binds X.K fd ps []) (hx : Passes CX X E0) : OpR X (compareOp .In) (rInO C sp) := by
  intro pins s g J x y v u Q I rx ry hq
  obtain ⟨a, dx, fs, rfl, ha, q⟩ := hq
  cases (show u = Value.ref a from ry)
  obtain ⟨mA, O, _⟩ := ins_get I.hok ha
  obtain ⟨od, O, _⟩ := O.look
  show wpAny (model X.prog X.w) X.A (contains (.ref a) v >>= fun b => pure (.bool b)) (EP X pins g Q) X.xe s
  refine wpAny_bind (PySem.W.contains_fn I.kIn O hs hf (wpAny_mono (run_at (vs := [.ref a, x]) F hr rfl hb hx I (.cons rfl (.cons rx .nil)) q) (fun r s' z => ?_) fun _ _ e => e))
  obtain ⟨w', J', I', rv, b, rfl, q'⟩ := z
  cases rv
  exact ⟨b, rfl, wpAny_pure ⟨.bl b, J', I', rfl, q'⟩⟩
theorem inO {m : Nat} (O : OwnM X.prog X.w X.K X.mg X.base CX C "__contains__" m ps sp) (hr : Room m X.A) (hx : Passes CX X E0) : OpR X (compareOp .In) (rInO C sp) := by
  obtain ⟨f, fd, F, M, hi, hb⟩ := O.ex
  exact op_inO F M.at_ hi hr hb hx
end
end L2

set_option Elab.async false
set_option maxRecDepth 100000
set_option maxHeartbeats 4000000
/-! ranges with a step made lists and tuples; zip of two tuples in a comprehension; a def that is held by a name -/
namespace L2
open PySem PySem.Spec PyProof.Rows
theorem pss_dead {X : Cx} {ss : List Stmt} : PSs X ss (fun _ _ _ => False) := ⟨fun _ _ _ _ _ _ h => h.elim⟩
/-- the def at f keeps its promise -/
structure OwnAt (P : Program) (w : World) (K : PySem.W.Frag) (mg : Str → Option Value) (base : Heap) (CX : CXT) (f : Addr) (k : Nat) (ps : List Str) (sp : Sp) : Prop where
  ex : ∃ fd, FnOk P w K mg base CX k f fd ps sp ∧ PySem.W.keepIn K (.ref f) = true ∧ Binds K fd ps []
theorem Own.at_ {P : Program} {w : World} {K : PySem.W.Frag} {mg : Str → Option Value} {base : Heap} {CX : CXT} {x : Str} {k : Nat} {ps : List Str} {sp : Sp} (O : Own P w K mg base CX x k ps sp) : ∃ f, mg x = some (.ref f) ∧ OwnAt P w K mg base CX f k ps sp := by
  obtain ⟨f, fd, F, hm, hk, hb⟩ := O.ex
  exact ⟨f, hm, fd, F, hk, hb⟩
section
variable {X : Cx} {CX : CXT} {x : Str} {k i : Nat} {f : Addr} {ps : List Str} {sp : Sp} {e : Expr} {es : List Expr} {t : TA} {p pos : Pos}
/-- the i-th slot holds f, which is called; W is wished for what it raises -/
def tCallVS (i : Nat) (f : Addr) (sp : Sp) (E : St → XK) (t : TA) : TE := fun σ H Q => σ[i]? = some (some (.ref f)) ∧ t σ H fun vs H1 => sp vs H1 Q (E σ)
theorem pe_ownVS {W : WX} (O : OwnAt X.prog X.w X.K X.mg X.base (L2.CX X.prog X.w) f k ps sp) (hr : Room k X.A) (tk : Takes X W) (hN : X.N[i]? = some x) (hv : Vis X.env.scope x) (ha : PA X (e :: es) t)
    (hdb : (x == ("__debug__" : Str)) = false := by decide) (hcd : (x == ("__classdict__" : Str)) = false := by decide)
    (he : starEach (e :: es) X.env = (false, eval e X.env) :: starEach es X.env := by rfl) (hpl : (backTo pos (starEach es X.env)).any (·.1) = false := by rfl) : PE X (.Call (.Name x p) (e :: es) [] pos) (tCallVS i f sp (WE W) t) := by
  obtain ⟨fd, F, hk, hb⟩ := O.ex
  refine ⟨fun pins s σ H Q I h => ?_⟩
  obtain ⟨hσ, h⟩ := h
  refine PyProof.Rows.Call_ (thn ((pe_var (pos := p) hN hv hdb hcd).run pins s σ H (fun y H1 => y = .ref f ∧ H1 = H) I ⟨_, hσ, rfl, rfl⟩) fun u s1 ⟨y, H1, I1, rx, ex, eh⟩ => ?_) rfl
  subst ex eh
  obtain rfl : u = Value.ref f := rx
  refine PySem.W.callWith_K (h₀ := X.base) I1.ok.mod.kin hk (thn (ha.run pos pins s1 σ H1 _ I1 h) fun us s2 ⟨vs, H2, I2, r, q⟩ => ⟨I2.kIn, ?_⟩) he hpl
  exact run_fnSD (us := us) (vs := vs) F hr hb .nil (passAt tk σ) I2 r (by rw [List.append_nil]; exact q)
end
/-! zip of two tuples -/
section
variable {K : PySem.W.Frag} {a b : Addr} {xs ys : List V}
theorem walk_zipT {n : Nat} (hn : n = min xs.length ys.length) : Walk (RZ.ItzT K a b) n (fun H => SqT K H a xs ∧ SqT K H b ys) (YPair (fun i => xs[i]?) (fun i => ys[i]?)) := by
  refine ⟨fun i _ hi q => ⟨xs, ys, xs[i]'(by omega), ys[i]'(by omega), q.1, q.2, List.getElem?_eq_getElem (by omega), List.getElem?_eq_getElem (by omega)⟩, fun _ q => ⟨xs, ys, q.1, q.2, by omega⟩, fun i H v H' _ q y => ?_⟩
  obtain ⟨T, x, y, e1, e2, e3, h1, h2⟩ := y
  exact ⟨T, x, y, e1, e2, e3, h1 xs q.1, h2 ys q.2⟩
end
/-! ranges with a step -/
section
variable {X : Cx}
def PRg3 (X : Cx) (e : Expr) (t : St → Hp → (Int → Int → Int → Hp → Prop) → Prop) : Prop :=
  ∀ (pins : List (Addr × Obj)) (s : Shared) (σ : St) (H : Hp) (Q : Int → Int → Int → Hp → Prop), Inv X pins σ H s → t σ H Q →
    wpAny (model X.prog X.w) X.A (eval e X.env) (fun x s' => ∃ r a b c t u v H', x = Value.ref r ∧ IsRange s'.heap r a b c t u v ∧ Inv X pins σ H' s' ∧ Q a b c H') X.xe s
def tRg3 (t : TA) (σ : St) (H : Hp) (Q : Int → Int → Int → Hp → Prop) : Prop := t σ H fun vs H1 => ∃ a b c, vs = [.int a, .int b, .int c] ∧ c ≠ 0 ∧ (-(2 ^ 62) ≤ a ∧ a < 2 ^ 62 ∧ -(2 ^ 62) ≤ b ∧ b < 2 ^ 62 ∧ c.natAbs < 1073741824) ∧ Q a b c H1
end
end L2

set_option Elab.async false
set_option maxRecDepth 100000
set_option maxHeartbeats 4000000
/-! comprehensions over ranges and over zip of two tuples, told by the place; what is tested and made only adds to the heap -/
namespace L2
open PySem PySem.Spec PyProof.Rows
/-- a comprehension's turns -/
abbrev LcGo (J : It) (g : TG) (tt : TT) (te : TE) (vs : List Nat) (σ : St) (H1 : Hp) (D : Addr) (Qd : Hp → Prop) : Prop :=
  ∃ W : Nat → Nat → Hp → Prop, (∃ m, W 0 m (upd H1 D (.lst []))) ∧ ∀ i m H, W i m H →
    (J.stop i H ∧ Qd H) ∨ (J.go i H ∧ ∃ Nx : Hp → Prop, (∀ H', Nx H' → ∃ m', m' < m ∧ W (i + 1) m' H') ∧ ∀ x H', J.yld i H x H' → g x (wipe σ vs) H' fun σ2 H2 => wipe σ2 vs = wipe σ vs ∧ tt σ2 H2 fun b H3 =>
      if b = true then te σ2 H3 fun y H4 => ∃ acc, H4 D = some (.lst acc) ∧ acc.length < sizeLine ∧ Nx (upd H4 D (.lst (acc ++ [y]))) else Nx H3)
theorem range_snoc (n : Nat) : List.range (n + 1) = List.range n ++ [n] := List.range_succ
section
variable {K : PySem.W.Frag} {σ : St} {H : Hp} {te : TE} {tt : TT} {vs : List Nat}
theorem lc_turn {f : Nat → V} {b : Nat → Bool} {D : Addr} {i n : Nat} {σ2 : St} {H' : Hp} (hD : H D = none) (hz : n < sizeLine) (hi : i < n) (hw : wipe σ2 vs = wipe σ vs) (e : Ext H H') (hl : H' D = some (.lst (((List.range i).filter b).map f)))
    (ht : ∀ Q : Bool → Hp → Prop, (∀ H'', Ext H' H'' → Q (b i) H'') → tt σ2 H' Q) (he : b i = true → ∀ H3, Ext H' H3 → ∀ Q : VK, (∀ H'', Ext H3 H'' → Q (f i) H'') → te σ2 H3 Q) :
    wipe σ2 vs = wipe σ vs ∧ tt σ2 H' fun b' H3 => if b' = true then te σ2 H3 fun y H4 => ∃ acc, H4 D = some (.lst acc) ∧ acc.length < sizeLine ∧ (Ext H (upd H4 D (.lst (acc ++ [y]))) ∧ upd H4 D (.lst (acc ++ [y])) D = some (.lst (((List.range (i + 1)).filter b).map f)))
      else (Ext H H3 ∧ H3 D = some (.lst (((List.range (i + 1)).filter b).map f))) := by
  refine ⟨hw, ht _ fun H3 e3 => ?_⟩
  have hl3 := e3 _ _ hl
  cases hb : b i with
  | true =>
    refine iteT (he hb H3 e3 _ fun H4 e4 => ⟨_, e4 _ _ hl3, ?_, ext_mut ((e.trans e3).trans e4) hD, ?_⟩)
    · rw [List.length_map]
      refine Nat.lt_of_le_of_lt (Nat.le_trans (List.length_filter_le _ _) ?_) hz
      rw [List.length_range]
      omega
    · rw [upd_same, range_snoc, List.filter_append, List.map_append]
      simp [hb]
  | false =>
    refine iteF ⟨e.trans e3, ?_⟩
    rw [hl3, range_snoc, List.filter_append, List.map_append]
    simp [hb]
theorem lc_rgR {Qd : Addr → Hp → Prop} {lo : Int} {n j : Nat} {f : Nat → V} {b : Nat → Bool} (hz : n < sizeLine) (hw : ∀ x, wipe ((wipe σ vs).set j (some x)) vs = wipe σ vs)
    (ht : ∀ i, i < n → ∀ H', Ext H H' → ∀ Q : Bool → Hp → Prop, (∀ H'', Ext H' H'' → Q (b i) H'') → tt ((wipe σ vs).set j (some (.int (lo + i)))) H' Q)
    (he : ∀ i, i < n → b i = true → ∀ H', Ext H H' → ∀ Q : VK, (∀ H'', Ext H' H'' → Q (f i) H'') → te ((wipe σ vs).set j (some (.int (lo + i)))) H' Q)
    (q : ∀ D H', H D = none → Ext H H' → H' D = some (.lst (((List.range n).filter b).map f)) → Qd D H') : ∀ D, H D = none → LcGo (Itr lo n) (gName j) tt te vs σ H D (Qd D) := fun D hD =>
  lc_range (fun i H' => Ext H H' ∧ H' D = some (.lst (((List.range i).filter b).map f))) ⟨Ext.upd hD, upd_same⟩ (fun i H' hi pv => lc_turn hD hz hi (hw _) pv.1 pv.2 (ht i hi H' pv.1) fun hb H3 e3 => he i hi hb H3 (pv.1.trans e3)) (fun H' pv => q D H' hD pv.1 pv.2)
theorem lc_zipR {Qd : Addr → Hp → Prop} {a b2 : Addr} {xs ys : List V} {n i1 i2 : Nat} {f : Nat → V} {b : Nat → Bool} (hx : SqT K H a xs) (hy : SqT K H b2 ys) (hn : n = min xs.length ys.length) (hz : n < sizeLine)
    (hw : ∀ x y, wipe (((wipe σ vs).set i1 (some x)).set i2 (some y)) vs = wipe σ vs)
    (ht : ∀ i x y, i < n → xs[i]? = some x → ys[i]? = some y → ∀ H', Ext H H' → ∀ Q : Bool → Hp → Prop, (∀ H'', Ext H' H'' → Q (b i) H'') → tt (((wipe σ vs).set i1 (some x)).set i2 (some y)) H' Q)
    (he : ∀ i x y, i < n → xs[i]? = some x → ys[i]? = some y → b i = true → ∀ H', Ext H H' → ∀ Q : VK, (∀ H'', Ext H' H'' → Q (f i) H'') → te (((wipe σ vs).set i1 (some x)).set i2 (some y)) H' Q)
    (q : ∀ D H', H D = none → Ext H H' → H' D = some (.lst (((List.range n).filter b).map f)) → Qd D H') : ∀ D, H D = none → LcGo (RZ.ItzT K a b2) (gTup K 2 (gCons (gName i1) (gCons (gName i2) gNil))) tt te vs σ H D (Qd D) := fun D hD => by
  refine lc_it (walk_zipT (K := K) (a := a) (b := b2) (xs := xs) (ys := ys) hn) (fun i H' => Ext H H' ∧ H' D = some (.lst (((List.range i).filter b).map f))) ⟨Ext.upd hD, upd_same⟩ (fun i H' _ pv => ⟨hx.ext pv.1, hy.ext pv.1⟩) (fun i v H' H'' hi pv y => ?_) (fun H' pv => q D H' hD pv.1 pv.2)
  obtain ⟨T, x, y, rfl, hT, rfl, h1, h2⟩ := y
  have eT := Ext.upd (o := .tup [x, y]) hT
  refine ⟨T, [x, y], rfl, SqT.of upd_same, rfl, x, [y], rfl, y, [], rfl, rfl, ?_⟩
  exact lc_turn hD hz hi (hw _ _) (pv.1.trans eT) (eT _ _ pv.2) (ht i x y hi h1 h2 _ (pv.1.trans eT)) fun hb H3 e3 => he i x y hi h1 h2 hb H3 ((pv.1.trans eT).trans e3)
end
end L2

set_option Elab.async false
set_option maxRecDepth 100000
set_option maxHeartbeats 4000000
/-! rules with the kit's own part named, for what stands within a comprehension -/
namespace L2
open PySem PySem.Spec PyProof.Rows
section
variable {X : Cx} {K : PySem.W.Frag}
theorem ix_tupK (h : X.K = K) : IxR X (rIxT K) := by
  subst h
  exact ix_tup
theorem ix_listK (h : X.K = K) : IxR X (rIxL K) := by
  subst h
  exact ix_list
theorem cr_maxK (h : X.K = K) (hc : X.calm = true) : CallR X (.builtin "max") (rMax K) := by
  subst h
  exact cr_max hc
theorem cr_minK (h : X.K = K) (hc : X.calm = true) : CallR X (.builtin "min") (rMin K) := by
  subst h
  exact cr_min hc
theorem pe_fldK {e : Expr} {ta : TE} {f : Str} {pos : Pos} (h : X.K = K) (he : PE X e ta) (hb : attributeBase e f X.env (eval e X.env) = eval e X.env := by rfl) : PE X (.Attribute e f pos) (tFld K ta f) := by
  subst h
  exact pe_fld he hb
def iListK (K : PySem.W.Frag) (tl : TE) : TI := fun σ H R => tl σ H fun x H1 => ∃ a, x = .ref a ∧ (∃ xs, SqL K H1 a xs) ∧ R (Itl K a) H1
theorem pi_listK {tg l : Expr} {tl : TE} (h : X.K = K) (hl : PE X l tl) : PI X tg l (iListK K tl) := by
  subst h
  exact pi_list hl
def rTupOfK (K : PySem.W.Frag) : List V → Hp → VK → Prop := fun xs H Q => ∃ p ys, xs = [.ref p] ∧ ((SqL K H p ys ∧ ∀ l, H l = none → Q (.ref l) (upd H l (.tup ys))) ∨ (SqT K H p ys ∧ Q (.ref p) H))
theorem call_tuple_ofK (h : X.K = K) : CallR X (.type "tuple") (rTupOfK K) := by
  subst h
  exact call_tuple_of
def rListOfK (K : PySem.W.Frag) : List V → Hp → VK → Prop := fun xs H Q => ∃ p ys, xs = [.ref p] ∧ (SqL K H p ys ∨ SqT K H p ys) ∧ ∀ l, H l = none → Q (.ref l) (upd H l (.lst ys))
theorem call_list_ofK (h : X.K = K) : CallR X (.type "list") (rListOfK K) := by
  subst h
  exact call_list_of
end
end L2

set_option Elab.async false
set_option maxRecDepth 100000
set_option maxHeartbeats 4000000
/-! list(zip(a, b)) of two lists -/
namespace PySem
theorem zip_no_len : typeLookup (Value.type "zip") (Str.ofString "__len__") = pure none := am_miss_of_fast (by decide +kernel)
theorem zip_no_hint : typeLookup (Value.type "zip") (Str.ofString "__length_hint__") = pure none := am_miss_of_fast (by decide +kernel)
/-- what has been given out -/
structure ZGiven (h : Heap) (lo : Addr) (acc : Array Value) (xs ys : Array Value) (i : Nat) (as : List Addr) : Prop where
  acc : acc.toList = as.map Value.ref
  len : as.length = i
  rise : List.Pairwise (· < ·) as
  above : ∀ a ∈ as, lo < a
  below : ∀ a ∈ as, a < h.objs.size
  pairs : ∀ (j : Nat) (a : Addr), as[j]? = some a → ∃ x y, xs[j]? = some x ∧ ys[j]? = some y ∧ IsPair h a x y
/-- how the zip stands -/
structure ZSt (h : Heap) (z TI TO i1 i2 l1 l2 : Addr) (xs ys : Array Value) (i : Nat) : Prop where
  first : i = 0 → ∃ a b, IsZip h z TI TO .none ∧ IsPair h TO a b
  later : 0 < i → ∃ T f x y, IsZipHeld h z TI TO T f ∧ IsPair h T x y
  ti : IsPair h TI (.ref i1) (.ref i2)
  it1 : h.IsListIter i1 l1 i
  it2 : h.IsListIter i2 l2 i
  li1 : h.IsList l1 xs
  li2 : h.IsList l2 ys
structure ZOff (S z TI TO i1 i2 l1 l2 : Addr) : Prop where
  z : S ≠ z
  ti : S ≠ TI
  to : S ≠ TO
  i1 : S ≠ i1
  i2 : S ≠ i2
  l1 : S ≠ l1
  l2 : S ≠ l2
section
variable {prog : Program} {w : World} {A : Around} {z TI TO i1 i2 l1 l2 S lo : Addr} {xs ys : Array Value} {i : Nat} {h h' : Heap}
theorem ZGiven.next {acc : Array Value} {as : List Addr} {T : Addr} {x y : Value} (g : ZGiven h lo acc xs ys i as) (hT : T = h.objs.size) (hlo : lo < T) (hsz : h'.objs.size = h.objs.size + 1) (hx : xs[i]? = some x) (hy : ys[i]? = some y) (hp : IsPair h' T x y)
    (hk : ∀ a ∈ as, ∀ x y, IsPair h a x y → IsPair h' a x y) : ZGiven h' lo (acc.push (.ref T)) xs ys (i + 1) (as ++ [T]) where
  acc := by rw [Array.toList_push, g.acc, List.map_append]; rfl
  len := by rw [List.length_append, g.len]; rfl
  rise := by
    rw [List.pairwise_append]
    refine ⟨g.rise, List.pairwise_singleton _ _, fun a ha b hb => ?_⟩
    rw [List.mem_singleton.mp hb, hT]
    exact g.below a ha
  above := fun a ha => by
    rcases List.mem_append.mp ha with ha | ha
    · exact g.above a ha
    · rw [List.mem_singleton.mp ha]
      exact hlo
  below := fun a ha => by
    rw [hsz]
    rcases List.mem_append.mp ha with ha | ha
    · exact Nat.lt_succ_of_lt (g.below a ha)
    · rw [List.mem_singleton.mp ha, hT]
      exact Nat.lt_succ_self _
  pairs := fun j a hj => by
    by_cases e : j < as.length
    · rw [List.getElem?_append_left e] at hj
      obtain ⟨x', y', h1, h2, h3⟩ := g.pairs j a hj
      exact ⟨x', y', h1, h2, hk a (List.mem_of_getElem? hj) _ _ h3⟩
    · have hl := (List.getElem?_eq_some_iff.mp hj).1
      rw [List.length_append] at hl
      have hl1 : [T].length = 1 := rfl
      have ej : j = as.length := by omega
      rw [List.getElem?_append_right (by omega), ej, Nat.sub_self] at hj
      cases hj
      rw [ej, g.len]
      exact ⟨x, y, hx, hy, hp⟩
theorem ZGiven.upd {acc : Array Value} {as : List Addr} {f : Obj → Obj} {oS : Obj} (g : ZGiven h lo acc xs ys i as) (hS : h.get? S = some oS) (hc : oS.cls = .type "list") : ZGiven (h.update S f) lo acc xs ys i as where
  acc := g.acc
  len := g.len
  rise := g.rise
  above := g.above
  below := fun a ha => by rw [Heap.size_update]; exact g.below a ha
  pairs := fun j a hj => by
    obtain ⟨x, y, h1, h2, h3⟩ := g.pairs j a hj
    refine ⟨x, y, h1, h2, ?_⟩
    have ne : S ≠ a := fun e => by
      subst e
      have h4 : h.get? S = some _ := h3
      rw [hS] at h4
      cases h4
      exact absurd (show Value.type "tuple" = Value.type "list" from hc) (by decide)
    show (h.update S f).get? a = _
    rw [Heap.get?_update_other h f ne]
    exact h3
theorem ZSt.upd {f : Obj → Obj} (s : ZSt h z TI TO i1 i2 l1 l2 xs ys i) (o : ZOff S z TI TO i1 i2 l1 l2) {oS : Obj} (hS : h.get? S = some oS) (hc : oS.cls = .type "list") : ZSt (h.update S f) z TI TO i1 i2 l1 l2 xs ys i where
  first := fun e => by
    obtain ⟨a, b, h1, h2⟩ := s.first e
    exact ⟨a, b, (Heap.get?_update_other h f o.z).trans h1, (Heap.get?_update_other h f o.to).trans h2⟩
  later := fun e => by
    obtain ⟨T, b, x, y, h1, h2⟩ := s.later e
    have ne : S ≠ T := fun e => by
      subst e
      have h4 : h.get? S = some _ := h2
      rw [hS] at h4
      cases h4
      exact absurd (show Value.type "tuple" = Value.type "list" from hc) (by decide)
    exact ⟨T, b, x, y, (Heap.get?_update_other h f o.z).trans h1, (Heap.get?_update_other h f ne).trans h2⟩
  ti := (Heap.get?_update_other h f o.ti).trans s.ti
  it1 := by
    obtain ⟨q, h1, h2⟩ := s.it1
    exact ⟨q, (Heap.get?_update_other h f o.i1).trans h1, h2⟩
  it2 := by
    obtain ⟨q, h1, h2⟩ := s.it2
    exact ⟨q, (Heap.get?_update_other h f o.i2).trans h1, h2⟩
  li1 := by
    obtain ⟨q, h1, h2⟩ := s.li1
    exact ⟨q, (Heap.get?_update_other h f o.l1).trans h1, h2⟩
  li2 := by
    obtain ⟨q, h1, h2⟩ := s.li2
    exact ⟨q, (Heap.get?_update_other h f o.l2).trans h1, h2⟩
theorem zip_loop (hh : A.in1.handled = none) (D : ZipApart z TI TO i1 i2 l1 l2) (o : ZOff S z TI TO i1 i2 l1 l2) (res : Value) {n : Nat} (hn : n = min xs.size ys.size) (hz : n + 1 ≤ sizeLine) {g : Array GenState} {d : _} {tk : Nat} {os : _} {R : Result → Shared → Prop} :
    ∀ (k i : Nat) (h : Heap) (acc : Array Value) (c : Nat) (as : List Addr), n - i = k → i ≤ n → ZSt h z TI TO i1 i2 l1 l2 xs ys i → h.get? S = some { cls := .type "list", data := .seq acc c } → lo < h.objs.size → ZGiven h lo acc xs ys i as →
      (∀ (h' : Heap) (acc' : Array Value) (c' : Nat) (as' : List Addr), (∀ b ob, b ≠ S → b ≠ z → b ≠ TO → b ≠ i1 → b ≠ i2 → h.get? b = some ob → h'.get? b = some ob) → h'.get? S = some { cls := .type "list", data := .seq acc' c' } → ZGiven h' lo acc' xs ys n as' → R (.ok (.ret res)) ⟨h', g, d, tk, os⟩) →
      codeAny (model prog w) A (.builtin "list.extend.loop" ⟨[.ref S, .ref z, res], []⟩) R ⟨h, g, d, tk, os⟩ := by
  intro k
  induction k with
  | zero =>
    intro i h acc c as hk hi st hS hlo gv hR
    have ei : i = n := by omega
    subst ei
    refine codeAny_builtin F.entry_extend_loop ?_
    rw [Around.under_plainId F.plain_extend_loop]
    refine wpAny_bind ?_
    have hend : xs[i]? = none ∨ ys[i]? = none := by
      rcases Nat.le_total xs.size ys.size with e | e
      · left
        exact Array.getElem?_eq_none (by omega)
      · right
        exact Array.getElem?_eq_none (by omega)
    by_cases h0 : i = 0
    · obtain ⟨a, b, hz1, hto⟩ := st.first h0
      refine wpAny_pyNext_zip_end hh D hz1 st.ti hto st.it1 st.it2 st.li1 st.li2 hend fun h' hk' => ?_
      refine wpAny_pure (hR h' acc c as (fun b ob b1 b2 b3 b4 b5 e => hk' b ob b2 b3 b4 b5 e) (hk' S _ o.z o.to o.i1 o.i2 hS) ?_)
      have has : as = [] := List.eq_nil_of_length_eq_zero (gv.len.trans h0)
      subst has
      exact ⟨gv.acc, gv.len, gv.rise, gv.above, (fun a ha => by cases ha), fun j a hj => by cases hj⟩
    · obtain ⟨T, f, tx, ty, hz1, hT⟩ := st.later (by omega)
      refine wpAny_pyNext_zip_end_held hh D hz1 hT st.ti st.it1 st.it2 st.li1 st.li2 hend fun h' hk' => ?_
      refine wpAny_pure (hR h' acc c as (fun b ob b1 b2 b3 b4 b5 e => hk' b ob b2 b4 b5 e) (hk' S _ o.z o.i1 o.i2 hS) ?_)
      have keep : ∀ a ∈ as, ∀ x y, IsPair h a x y → IsPair h' a x y := fun a ha x y hp => by
        refine hk' a _ (fun e => ?_) (fun e => ?_) (fun e => ?_) hp
        · subst e
          have q : h.get? a = some _ := hp
          rw [show h.get? a = some _ from hz1] at q
          injection q with q
          injection q with q
          exact absurd q (by decide)
        · subst e
          obtain ⟨ob, q1, q2, _⟩ := st.it1
          rw [show h.get? a = some _ from hp] at q1
          cases q1
          exact absurd (show Value.type "tuple" = Value.type "list_iterator" from q2) (by decide)
        · subst e
          obtain ⟨ob, q1, q2, _⟩ := st.it2
          rw [show h.get? a = some _ from hp] at q1
          cases q1
          exact absurd (show Value.type "tuple" = Value.type "list_iterator" from q2) (by decide)
      refine ⟨gv.acc, gv.len, gv.rise, gv.above, fun a ha => ?_, fun j a hj => ?_⟩
      · obtain ⟨j, hj⟩ := List.getElem?_of_mem ha
        obtain ⟨x, y, _, _, hp⟩ := gv.pairs j a hj
        exact Heap.lt_size (keep a ha _ _ hp)
      · obtain ⟨x, y, h1, h2, hp⟩ := gv.pairs j a hj
        exact ⟨x, y, h1, h2, keep a (List.mem_of_getElem? hj) _ _ hp⟩
  | succ k ih =>
    intro i h acc c as hk hi st hS hlo gv hR
    refine codeAny_builtin F.entry_extend_loop ?_
    rw [Around.under_plainId F.plain_extend_loop]
    refine wpAny_bind ?_
    obtain ⟨x, hx⟩ : ∃ x, xs[i]? = some x := ⟨_, Array.getElem?_eq_getElem (by omega)⟩
    obtain ⟨y, hy⟩ : ∃ y, ys[i]? = some y := ⟨_, Array.getElem?_eq_getElem (by omega)⟩
    have step : ∀ h' : Heap, ZSt h' z TI TO i1 i2 l1 l2 xs ys (i + 1) → IsPair h' h.objs.size x y → h'.objs.size = h.objs.size + 1 → (∀ b ob, b ≠ z → b ≠ TO → b ≠ i1 → b ≠ i2 → h.get? b = some ob → h'.get? b = some ob) → (∀ a ∈ as, ∀ x y, IsPair h a x y → IsPair h' a x y) →
        wpAny (model prog w) A.in1 (do
          Builtin.List.listUpdate (Value.ref S) fun q => q.push (.ref h.objs.size)
          again (Code.builtin "list.extend.loop" ⟨[.ref S, .ref z, res], []⟩)) (fun fin s' => match fin with
          | Fin.done f => R (Except.ok f) s'
          | Fin.again c' => c'.quiet = true ∧ codeAny (model prog w) A c' R s') (fun e s' => R (Except.error e) s') ⟨h', g, d, tk, os⟩ := fun h' st' hp hsz hk' hkp => by
      have hS' : h'.get? S = some { cls := .type "list", data := .seq acc c } := hk' S _ o.z o.to o.i1 o.i2 hS
      have hal : acc.size = i := by
        have e1 := congrArg List.length gv.acc
        rw [List.length_map, gv.len, Array.length_toList] at e1
        exact e1
      refine wpAny_bind (wpAny_updateSeq hS' rfl (wpAny_pure ⟨plainId_quiet F.plain_extend_loop _, ?_⟩) (by omega) (by rw [Array.size_push]; omega))
      have gv' := gv.next (h' := h') rfl hlo hsz hx hy hp hkp
      refine ih (i + 1) (h'.update S (Obj.mapSeq fun q => q.push (.ref h.objs.size))) (acc.push (.ref h.objs.size)) _ (as ++ [h.objs.size]) (by omega) (by omega) (st'.upd o hS' rfl) (Heap.get?_update_self (Obj.mapSeq fun q => q.push (.ref h.objs.size)) hS' rfl) ?_ (gv'.upd hS' rfl) fun h2 acc2 c2 as2 e1 e2 e3 => ?_
      · rw [Heap.size_update, hsz]
        exact Nat.lt_succ_of_lt hlo
      · exact hR h2 acc2 c2 as2 (fun b ob b1 b2 b3 b4 b5 e => e1 b ob b1 b2 b3 b4 b5 ((Heap.get?_update_other h' _ (Ne.symm b1)).trans (hk' b ob b2 b3 b4 b5 e))) e2 e3
    by_cases h0 : i = 0
    · obtain ⟨a, b, hz1, hto⟩ := st.first h0
      have has : as = [] := List.eq_nil_of_length_eq_zero (gv.len.trans h0)
      refine wpAny_pyNext_zip_item D hz1 st.ti hto st.it1 st.it2 st.li1 st.li2 hx hy fun h' a1 a2 a3 a4 a5 a6 a7 => step h' ⟨fun e => absurd e (Nat.succ_ne_zero _), fun _ => ⟨h.objs.size, false, x, y, a1, a5⟩, a7 TI _ D.TIz D.TITO D.TIi1 D.TIi2 st.ti, a3, a4, ?_, ?_⟩ a5 a6 a7 fun a ha => by rw [has] at ha; cases ha
      · obtain ⟨q, h1, h2⟩ := st.li1
        exact ⟨q, a7 l1 q D.l1z D.l1TO D.l1i1 D.l1i2 h1, h2⟩
      · obtain ⟨q, h1, h2⟩ := st.li2
        exact ⟨q, a7 l2 q D.l2z D.l2TO D.l2i1 D.l2i2 h1, h2⟩
    · obtain ⟨T, f, tx, ty, hz1, hT⟩ := st.later (by omega)
      have kp : ∀ (h' : Heap), (∀ b ob, b ≠ z → b ≠ i1 → b ≠ i2 → h.get? b = some ob → h'.get? b = some ob) → ∀ a x y, IsPair h a x y → IsPair h' a x y := fun h' a7 a x y hp => by
        refine a7 a _ (fun e => ?_) (fun e => ?_) (fun e => ?_) hp
        · subst e
          have q : h.get? a = some _ := hp
          rw [show h.get? a = some _ from hz1] at q
          injection q with q
          injection q with q
          exact absurd q (by decide)
        · subst e
          obtain ⟨ob, q1, q2, _⟩ := st.it1
          rw [show h.get? a = some _ from hp] at q1
          cases q1
          exact absurd (show Value.type "tuple" = Value.type "list_iterator" from q2) (by decide)
        · subst e
          obtain ⟨ob, q1, q2, _⟩ := st.it2
          rw [show h.get? a = some _ from hp] at q1
          cases q1
          exact absurd (show Value.type "tuple" = Value.type "list_iterator" from q2) (by decide)
      refine wpAny_pyNext_zip_item_held D hz1 hT st.ti st.it1 st.it2 st.li1 st.li2 hx hy fun h' a1 a3 a4 a5 a6 a7 => step h' ⟨fun e => absurd e (Nat.succ_ne_zero _), fun _ => ⟨T, true, tx, ty, a1, kp h' a7 T tx ty hT⟩, a7 TI _ D.TIz D.TIi1 D.TIi2 st.ti, a3, a4, ?_, ?_⟩ a5 a6 (fun b ob b1 b2 b3 b4 e => a7 b ob b1 b3 b4 e) fun a ha x y hp => kp h' a7 a x y hp
      · obtain ⟨q, h1, h2⟩ := st.li1
        exact ⟨q, a7 l1 q D.l1z D.l1i1 D.l1i2 h1, h2⟩
      · obtain ⟨q, h1, h2⟩ := st.li2
        exact ⟨q, a7 l2 q D.l2z D.l2i1 D.l2i2 h1, h2⟩
theorem list_init_zip (hh : A.in1.handled = none) (D : ZipApart z TI TO i1 i2 l1 l2) (o : ZOff S z TI TO i1 i2 l1 l2) {n : Nat} (hn : n = min xs.size ys.size) (hz : n + 1 ≤ sizeLine) {g : Array GenState} {d : _} {tk : Nat} {os : _} {R : Result → Shared → Prop}
    (st : ZSt h z TI TO i1 i2 l1 l2 xs ys 0) (hS : h.get? S = some { cls := .type "list", data := .seq #[] }) (hlo : lo < h.objs.size)
    (hR : ∀ (h' : Heap) (acc' : Array Value) (c' : Nat) (as' : List Addr), (∀ b ob, b ≠ S → b ≠ z → b ≠ TO → b ≠ i1 → b ≠ i2 → h.get? b = some ob → h'.get? b = some ob) → h'.get? S = some { cls := .type "list", data := .seq acc' c' } → ZGiven h' lo acc' xs ys n as' → R (.ok (.ret .none)) ⟨h', g, d, tk, os⟩) :
    wpAny (model prog w) A.in1 (Builtin.«list.__init__» ⟨[.ref S, .ref z], []⟩) (fun fin s' => match fin with
      | Fin.done f => R (Except.ok f) s'
      | Fin.again c' => c'.quiet = true ∧ codeAny (model prog w) A c' R s') (fun e s' => R (Except.error e) s') ⟨h, g, d, tk, os⟩ := by
  refine wpAny_bind ?_
  unfold Builtin.List.listItems
  refine wpAny_bind (wpAny_seqItems hS rfl (wpAny_pure ?_))
  refine wpAny_bind (wpAny_updateSeq hS rfl ?_)
  refine wpAny_bind (wpAny_letGo ?_)
  obtain ⟨a0, b0, hz0, hto0⟩ := st.first rfl
  have hS1 := Heap.get?_update_self (h := h) (Obj.mapSeq fun _ => #[]) hS rfl
  have st1 := st.upd (f := Obj.mapSeq fun _ => #[]) o hS rfl
  have sz1 : (h.update S (Obj.mapSeq fun _ => #[])).objs.size = h.objs.size := Heap.size_update _ _ _
  have off1 : ∀ b ob, b ≠ S → h.get? b = some ob → (h.update S (Obj.mapSeq fun _ => #[])).get? b = some ob := fun b ob hb e => (Heap.get?_update_other h _ (Ne.symm hb)).trans e
  generalize h.update S (Obj.mapSeq fun _ => #[]) = h1 at hS1 st1 sz1 off1 ⊢
  have hz1 : h1.get? z = some _ := off1 z _ (Ne.symm o.z) hz0
  have hT : ∀ (h2 : Heap) (g2 : _) , h2.get? z = some { cls := Value.type "zip", data := Data.fields #[Value.none, Value.bool false, Value.bool false, Value.ref TI, Value.ref TO] } → (Shared.mk h2 g2 d tk os).TypeIs (.ref z) "zip" := fun h2 g2 e => ⟨_, e, rfl⟩
  refine wpAny_bind (wpAny_typeOf (hT h1 g hz1) ?_)
  have e1 : (Builtin.List.listSameRef (Value.ref S) (Value.ref z) || Value.type "zip" == Value.type "list" || Value.type "zip" == Value.type "tuple") = false := by
    have : Builtin.List.listSameRef (Value.ref S) (Value.ref z) = false := beq_eq_false_iff_ne.mpr o.z
    rw [this]
    rfl
  rw [e1, if_neg (by decide)]
  refine wpAny_bind (wpAny_pyIter_zip hz1 ?_)
  refine wpAny_bind (wpAny_holding ?_)
  refine wpAny_bind (wpAny_specialOf (hT h1 g hz1) zip_no_len ?_)
  refine wpAny_bind (wpAny_specialOf (hT h1 g hz1) zip_no_hint (wpAny_pure ?_))
  rw [if_pos (by rfl)]
  refine wpAny_bind (wpAny_rule ?_)
  refine wpAny_bind ?_
  unfold Builtin.List.listTouch
  refine wpAny_bind (wpAny_updateSeq hS1 rfl ?_)
  have hS2 := Heap.get?_update_self (h := h1) (Obj.mapSeq fun q => q.push Value.none) hS1 rfl
  have st2 := st1.upd (f := Obj.mapSeq fun q => q.push Value.none) o hS1 rfl
  have sz2 : (h1.update S (Obj.mapSeq fun q => q.push Value.none)).objs.size = h1.objs.size := Heap.size_update _ _ _
  have off2 : ∀ b ob, b ≠ S → h1.get? b = some ob → (h1.update S (Obj.mapSeq fun q => q.push Value.none)).get? b = some ob := fun b ob hb e => (Heap.get?_update_other h1 _ (Ne.symm hb)).trans e
  generalize h1.update S (Obj.mapSeq fun q => q.push Value.none) = h2 at hS2 st2 sz2 off2 ⊢
  refine wpAny_updateSeq hS2 rfl ?_
  have hS3 := Heap.get?_update_self (h := h2) (Obj.mapSeq fun q => q.pop) hS2 rfl
  have st3 := st2.upd (f := Obj.mapSeq fun q => q.pop) o hS2 rfl
  have sz3 : (h2.update S (Obj.mapSeq fun q => q.pop)).objs.size = h2.objs.size := Heap.size_update _ _ _
  have off3 : ∀ b ob, b ≠ S → h2.get? b = some ob → (h2.update S (Obj.mapSeq fun q => q.pop)).get? b = some ob := fun b ob hb e => (Heap.get?_update_other h2 _ (Ne.symm hb)).trans e
  refine wpAny_pure ⟨plainId_quiet F.plain_extend_loop _, ?_⟩
  refine zip_loop (lo := lo) hh D o .none hn hz n 0 (h2.update S (Obj.mapSeq fun q => q.pop)) #[] _ [] (Nat.sub_zero n) (Nat.zero_le n) st3 hS3 (by rw [sz3, sz2, sz1]; exact hlo) ⟨rfl, rfl, .nil, (fun _ h => nomatch h), (fun _ h => nomatch h), (fun _ _ h => by cases h)⟩ fun h' acc' c' as' k1 k2 k3 => ?_
  exact hR h' acc' c' as' (fun b ob b1 b2 b3 b4 b5 e => k1 b ob b1 b2 b3 b4 b5 (off3 b ob b1 (off2 b ob b1 (off1 b ob b1 e)))) k2 k3
/-- list(z), z a zip of two lists as it was made -/
theorem call_list_zip {E : Value → Shared → Prop} {Q : Value → Shared → Prop} (hh : A.in1.in1.handled = none) (D : ZipApart z TI TO i1 i2 l1 l2) {n : Nat} (hn : n = min xs.size ys.size) (hz : n + 1 ≤ sizeLine) {s : Shared} (st : ZSt s.heap z TI TO i1 i2 l1 l2 xs ys 0)
    (hQ : ∀ (h' : Heap) (acc' : Array Value) (c' : Nat) (as' : List Addr), (∀ b ob, b ≠ z → b ≠ TO → b ≠ i1 → b ≠ i2 → s.heap.get? b = some ob → h'.get? b = some ob) → h'.get? s.heap.objs.size = some { cls := .type "list", data := .seq acc' c' } → ZGiven h' s.heap.objs.size acc' xs ys n as' → Q (.ref s.heap.objs.size) { s with heap := h' }) :
    wpAny (model prog w) A (call (.type "list") [.ref z]) Q E s := by
  obtain ⟨h, g, d, tk, os⟩ := s
  obtain ⟨a0, b0, hz0, hto0⟩ := st.first rfl
  refine callType_codes F.called_list (F.typeCall_list_1 _) F.entry_list_init (code_list_new (.ref z) (Q₁ := fun v s' => v = .ref h.objs.size ∧ s' = ⟨h.push { cls := .type "list", data := .seq #[] }, g, d, tk, os⟩) ⟨rfl, rfl⟩) fun obj s₁ h₁ => ?_
  obtain ⟨rfl, rfl⟩ := h₁
  have hS := Heap.get?_push_size h (o := { cls := .type "list", data := .seq #[] }) rfl
  have kp : ∀ b ob, h.get? b = some ob → (h.push { cls := Value.type "list", data := Data.seq #[] }).get? b = some ob := fun b ob e => Heap.get?_push_of_some _ e
  have lt : ∀ {b : Addr} {ob : Obj}, h.get? b = some ob → h.objs.size ≠ b := fun e => Nat.ne_of_gt (Heap.lt_size e)
  have o : ZOff h.objs.size z TI TO i1 i2 l1 l2 := ⟨lt hz0, lt st.ti, lt hto0, (by obtain ⟨_, q, _⟩ := st.it1; exact lt q), (by obtain ⟨_, q, _⟩ := st.it2; exact lt q), (by obtain ⟨_, q, _⟩ := st.li1; exact lt q), (by obtain ⟨_, q, _⟩ := st.li2; exact lt q)⟩
  have st' : ZSt (h.push { cls := Value.type "list", data := Data.seq #[] }) z TI TO i1 i2 l1 l2 xs ys 0 := ⟨fun _ => ⟨a0, b0, kp _ _ hz0, kp _ _ hto0⟩, fun e => absurd e (Nat.lt_irrefl _), kp _ _ st.ti, (by obtain ⟨q, q1, q2⟩ := st.it1; exact ⟨q, kp _ _ q1, q2⟩), (by obtain ⟨q, q1, q2⟩ := st.it2; exact ⟨q, kp _ _ q1, q2⟩), (by obtain ⟨q, q1, q2⟩ := st.li1; exact ⟨q, kp _ _ q1, q2⟩), (by obtain ⟨q, q1, q2⟩ := st.li2; exact ⟨q, kp _ _ q1, q2⟩)⟩
  refine ⟨⟨_, hS, rfl⟩, F.args_list_init_2 _ _, list_init_zip (lo := h.objs.size) hh D o hn hz st' hS (by rw [Heap.size_push]; exact Nat.lt_succ_self _) fun h' acc' c' as' k1 k2 k3 => ⟨rfl, ?_⟩⟩
  exact hQ h' acc' c' as' (fun b ob b2 b3 b4 b5 e => k1 b ob (Ne.symm (lt e)) b2 b3 b4 b5 (kp b ob e)) k2 k3
end
end PySem

set_option Elab.async false
set_option maxRecDepth 100000
set_option maxHeartbeats 4000000
/-! tuple(range(a, b, c)), list(range(a, b, c)), list(zip(x, y)) as expressions -/
namespace L2
open PySem PySem.Spec PyProof.Rows
section
variable {X : Cx}
theorem vals3 {x y z : V} {us : List Value} (r : Vals [x, y, z] us) : ∃ u v w, us = [u, v, w] ∧ RelV x u ∧ RelV y v ∧ RelV z w := by
  cases r with
  | cons h1 r =>
    obtain ⟨v, w, rfl, h2, h3⟩ := vals2 r
    exact ⟨_, v, w, rfl, h1, h2, h3⟩
theorem pylong_no {x c : Int} (h : c.natAbs < 1073741824) : Builtin.divisionGoesByPylong x c = false := by
  unfold Builtin.divisionGoesByPylong
  have hd : ¬ (if (c == 0) = true then 0 else c.natAbs.log2 / 30 + 1) > 300 := by
    split
    · omega
    · rename_i h0
      have hc : c.natAbs ≠ 0 := fun e => h0 (by rw [Int.natAbs_eq_zero.mp e]; rfl)
      have : c.natAbs.log2 < 30 := (Nat.log2_lt hc).mpr (by simpa using h)
      omega
  dsimp only
  rw [decide_eq_false hd]
  rfl
theorem prg_3 {e : Expr} {es : List Expr} {ta : TA} {p pos : Pos} (hg : Gl X "range") (hm : X.mg "range" = none) (ha : PA X (e :: es) ta) (he : starEach (e :: es) X.env = (false, eval e X.env) :: starEach es X.env := by rfl) (hpl : (backTo pos (starEach es X.env)).any (·.1) = false := by rfl) :
    PRg3 X (.Call (.Name "range" p) (e :: es) [] pos) (tRg3 ta) := by
  intro pins s σ H Q I h
  refine PyProof.Rows.Call_ (ld_blt I hg hm (u := .type "range") (by rfl) (PyProof.Rows.callWith_type1 (thn (ha.run pos pins s σ H _ I h) fun us s1 ⟨vs, H1, I1, r1, q1⟩ => ?_) he hpl)) rfl
  obtain ⟨a, b, c, rfl, hc, ⟨h1, h2, h3, h4, h5⟩, q⟩ := q1
  obtain ⟨u, v, w, rfl, ⟨t1, rfl⟩, ⟨t2, rfl⟩, ⟨t3, rfl⟩⟩ := vals3 r1
  refine call_range_3 hc ⟨s1.heap.objs.size, a, b, c, t1, t2, t3, H1, rfl, Heap.get?_push_size _ rfl, ?_, q⟩ (.inl (pylong_no h5))
  exact I1.kept (t' := s1.toks) fun b o e => Heap.get?_push_of_some _ e
def rgC (a c : Int) (n : Nat) : List V := (List.range n).map fun (i : Nat) => .int (a + (i : Int) * c)
theorem vals_rgC {a c : Int} {n : Nat} {acc : Array Value} (h : ItemsOf (fun i v => ∃ t, v = Value.int (a + (i : Int) * c) t) acc n) : Vals (rgC a c n) acc.toList := by
  refine vals_of_at ?_ fun j x u hx hu => ?_
  · show (rgC a c n).length = acc.toList.length
    rw [show acc.toList.length = acc.size from rfl, h.1]
    simp [rgC]
  · have hj : j < n := by
      have := (List.getElem?_eq_some_iff.mp hx).1
      simpa [rgC] using this
    obtain ⟨t, rfl⟩ := h.2 j u (by rw [← Array.getElem?_toList]; exact hu)
    unfold rgC at hx
    rw [List.getElem?_map, List.getElem?_range hj] at hx
    cases hx
    exact ⟨t, rfl⟩
def tTupRg3 (te : St → Hp → (Int → Int → Int → Hp → Prop) → Prop) : TE := fun σ H Q => te σ H fun a b c H1 => ∃ n, RgC a b c n ∧ n ≤ 2 ^ 24 ∧ ∀ q, H1 q = none → Q (.ref q) (upd H1 q (.tup (rgC a c n)))
def tLstRg3 (te : St → Hp → (Int → Int → Int → Hp → Prop) → Prop) : TE := fun σ H Q => te σ H fun a b c H1 => ∃ n, RgC a b c n ∧ n ≤ 2 ^ 24 ∧ ∀ q, H1 q = none → Q (.ref q) (upd H1 q (.lst (rgC a c n)))
theorem pe_tupRg3 {e : Expr} {te : St → Hp → (Int → Int → Int → Hp → Prop) → Prop} {p pos : Pos} (hc : X.calm = true) (hg : Gl X "tuple") (hm : X.mg "tuple" = none) (he : PRg3 X e te) (hs : starEach [e] X.env = (false, eval e X.env) :: starEach [] X.env := by rfl) :
    PE X (.Call (.Name "tuple" p) [e] [] pos) (tTupRg3 te) := by
  refine ⟨fun pins s σ H Q I h => ?_⟩
  refine PyProof.Rows.Call_ (ld_blt I hg hm (u := .type "tuple") (by rfl) (PyProof.Rows.callWith_type1 ?_ hs rfl)) rfl
  rw [hs]
  refine Calls.spliced_cons (thn (he pins s σ H _ I h) fun x s1 ⟨r, a, b, c, t, u, v, H1, ex, hr, I1, n, hn, hz, q⟩ => Calls.spliced_nil ?_)
  subst ex
  obtain ⟨_, _, h3, h4⟩ := hn
  refine call_tuple_range (I1.ok.hd hc) hr h3 h4 hz fun h' tk acc hk hacc => ?_
  have I2 := I1.kept (t' := tk) hk
  have hzl : (rgC a c n).length ≤ sizeLine := by
    rw [show (rgC a c n).length = n by simp [rgC]]
    exact Nat.le_trans hz (by decide)
  refine ⟨.ref h'.objs.size, upd H1 h'.objs.size (.tup (rgC a c n)), I2.laid (t' := tk) (fun b o e => Heap.get?_push_of_some _ e) (Nat.le_refl _) ⟨hzl, acc.toList, vals_rgC hacc, ⟨_, Heap.get?_push_size _ rfl, rfl, _, rfl⟩⟩, rfl, q _ (I2.hok.fresh (Nat.le_refl _))⟩
theorem pe_listRg3 {e : Expr} {te : St → Hp → (Int → Int → Int → Hp → Prop) → Prop} {p pos : Pos} (hc : X.calm = true) (hg : Gl X "list") (hm : X.mg "list" = none) (he : PRg3 X e te) (hs : starEach [e] X.env = (false, eval e X.env) :: starEach [] X.env := by rfl) :
    PE X (.Call (.Name "list" p) [e] [] pos) (tLstRg3 te) := by
  refine ⟨fun pins s σ H Q I h => ?_⟩
  refine PyProof.Rows.Call_ (ld_blt I hg hm (u := .type "list") (by rfl) (PyProof.Rows.callWith_type1 ?_ hs rfl)) rfl
  rw [hs]
  refine Calls.spliced_cons (thn (he pins s σ H _ I h) fun x s1 ⟨r, a, b, c, t, u, v, H1, ex, hr, I1, n, hn, hz, q⟩ => Calls.spliced_nil ?_)
  subst ex
  obtain ⟨_, _, h3, h4⟩ := hn
  refine call_list_range (I1.ok.hd hc) hr h3 h4 hz fun h' tk acc c' hk hS hacc => ?_
  have hzl : (rgC a c n).length ≤ sizeLine := by
    rw [show (rgC a c n).length = n by simp [rgC]]
    exact Nat.le_trans hz (by decide)
  refine ⟨.ref s1.heap.objs.size, upd H1 s1.heap.objs.size (.lst (rgC a c n)), I1.laid (t' := tk) hk (Nat.le_refl _) ⟨hzl, acc.toList, c', vals_rgC hacc, hS⟩, rfl, q _ (I1.hok.fresh (Nat.le_refl _))⟩
/-! list(zip(x, y)), two lists of ints -/
theorem zipApart {n la lb : Nat} (h1 : la < n) (h2 : lb < n) : ZipApart (n + 4) (n + 2) (n + 3) n (n + 1) la lb where
  TIz := show (n + 2 : Nat) ≠ n + 4 by omega
  TOz := show (n + 3 : Nat) ≠ n + 4 by omega
  i1z := show (n : Nat) ≠ n + 4 by omega
  i2z := show (n + 1 : Nat) ≠ n + 4 by omega
  TITO := show (n + 2 : Nat) ≠ n + 3 by omega
  TIi1 := show (n + 2 : Nat) ≠ n by omega
  TIi2 := show (n + 2 : Nat) ≠ n + 1 by omega
  TOi1 := show (n + 3 : Nat) ≠ n by omega
  TOi2 := show (n + 3 : Nat) ≠ n + 1 by omega
  i12 := show (n : Nat) ≠ n + 1 by omega
  l1z := show (la : Nat) ≠ n + 4 by omega
  l1TO := show (la : Nat) ≠ n + 3 by omega
  l1i1 := show (la : Nat) ≠ n by omega
  l1i2 := show (la : Nat) ≠ n + 1 by omega
  l2z := show (lb : Nat) ≠ n + 4 by omega
  l2TO := show (lb : Nat) ≠ n + 3 by omega
  l2i1 := show (lb : Nat) ≠ n by omega
  l2i2 := show (lb : Nat) ≠ n + 1 by omega
theorem lt_off {n b : Nat} (h : b < n) : b ≠ n + 4 ∧ b ≠ n + 3 ∧ b ≠ n ∧ b ≠ n + 1 := ⟨by omega, by omega, by omega, by omega⟩
/-- the same heap with k places more, all of them free -/
theorem padded (h : Heap) : ∀ k : Nat, ∃ h2 : Heap, h2.objs.size = h.objs.size + k ∧ (∀ b o, h.get? b = some o → h2.get? b = some o) ∧ ∀ b o, h2.get? b = some o → h.get? b = some o
  | 0 => ⟨h, rfl, fun _ _ e => e, fun _ _ e => e⟩
  | k + 1 => by
    obtain ⟨h2, e1, e2, e3⟩ := padded h k
    refine ⟨h2.push { cls := .none, data := .freed }, by rw [Heap.size_push, e1]; rfl, fun b o e => Heap.get?_push_of_some _ (e2 b o e), fun b o e => e3 b o ?_⟩
    obtain ⟨objs, life⟩ := h2
    unfold Heap.push Heap.get? at e
    dsimp only at e
    rw [Array.getElem?_push] at e
    by_cases hb : b = objs.size
    · rw [if_pos hb] at e
      cases e
    · rw [if_neg hb] at e
      exact e
theorem paired_at {α β : Type} {R : α → β → Prop} : ∀ {as : List α} {qs : List β} {j : Nat} {t : α}, Paired R as qs → as[j]? = some t → ∃ q, qs[j]? = some q ∧ R t q
  | _ :: _, _ :: _, 0, _, .cons h _, e => by
    cases e
    exact ⟨_, rfl, h⟩
  | _ :: _, _ :: _, j + 1, _, .cons _ h, e => by
    obtain ⟨q, h1, h2⟩ := paired_at (j := j) h (by simpa using e)
    exact ⟨q, by simpa using h1, h2⟩
theorem kv_zip : ∀ (xs : List Int) (ys : List Int) (us : List Value), Vals (ys.map V.int) us → KV ((xs.zip ys).map fun p => ((Sum.inl p.1 : Key), V.int p.2)) ((xs.zip us).map fun p => ((Sum.inl p.1 : Key), p.2))
  | [], _, _, _ => .nil
  | _ :: _, [], [], _ => .nil
  | x :: xs, y :: ys, u :: us, .cons h1 h2 => .cons ⟨rfl, h1⟩ (kv_zip xs ys us h2)
def tLstZip (K : PySem.W.Frag) (t : TA) : TE := fun σ H Q => t σ H fun vs H1 => ∃ (la lb : Addr) (xs ys : List Int), vs = [.ref la, .ref lb] ∧ SqL K H1 la (xs.map V.int) ∧ SqL K H1 lb (ys.map V.int) ∧ xs.length = ys.length ∧ xs.length ≤ 1000000 ∧
  ∀ (D : Addr) (as : List Addr) (H2 : Hp), Ext H1 H2 → H2 D = some (.lst (as.map V.ref)) → as.length = xs.length → (∀ (j : Nat) (t : Addr), as[j]? = some t → ∃ x y, xs[j]? = some x ∧ ys[j]? = some y ∧ H2 t = some (.tup [.int x, .int y])) → Q (.ref D) H2
theorem pe_listZip {a : Expr} {es : List Expr} {ta : TA} {p pz zpos pos : Pos} (hc : X.calm = true) (hg : Gl X "list") (hm : X.mg "list" = none) (hg2 : Gl X "zip") (hm2 : X.mg "zip" = none) (ha : PA X (a :: es) ta)
    (hs : starEach [.Call (.Name "zip" pz) (a :: es) [] zpos] X.env = (false, eval (.Call (.Name "zip" pz) (a :: es) [] zpos) X.env) :: starEach [] X.env := by rfl) (he : starEach (a :: es) X.env = (false, eval a X.env) :: starEach es X.env := by rfl) (hpl : (backTo zpos (starEach es X.env)).any (·.1) = false := by rfl) :
    PE X (.Call (.Name "list" p) [.Call (.Name "zip" pz) (a :: es) [] zpos] [] pos) (tLstZip X.K ta) := by
  refine ⟨fun pins s σ H Q I h => ?_⟩
  refine PyProof.Rows.Call_ (ld_blt I hg hm (u := .type "list") (by rfl) (PyProof.Rows.callWith_type1 ?_ hs rfl)) rfl
  rw [hs]
  refine Calls.spliced_cons (PyProof.Rows.Call_ (ld_blt I hg2 hm2 (u := .type "zip") (by rfl) (PyProof.Rows.callWith_type1 (thn (ha.run zpos pins s σ H _ I h) fun us s1 ⟨vs, H1, I1, r1, q1⟩ => ?_) he hpl)) rfl)
  obtain ⟨la, lb, xs, ys, rfl, hxs, hys, hll, hz, q⟩ := q1
  obtain ⟨u1, u2, rfl, r1a, r1b⟩ := vals2 r1
  obtain rfl : u1 = Value.ref la := r1a
  obtain rfl : u2 = Value.ref lb := r1b
  obtain ⟨its1, rv1, pl1, _⟩ := I1.list hxs
  obtain ⟨its2, rv2, pl2, _⟩ := I1.list hys
  have hl1 : its1.length = xs.length := by rw [← rv1.length, List.length_map]
  have hl2 : its2.length = ys.length := by rw [← rv2.length, List.length_map]
  have lt1 : la < s1.heap.objs.size := by obtain ⟨o, _, e, _⟩ := pl1; exact Heap.lt_size e
  have lt2 : lb < s1.heap.objs.size := by obtain ⟨o, _, e, _⟩ := pl2; exact Heap.lt_size e
  refine call_zip_2 pl1.isList pl2.isList fun h2 z1 z2 z3 z4 z5 z6 z7 => Calls.spliced_nil ?_
  have I2 := I1.kept (t' := s1.toks) z7
  have D : ZipApart (s1.heap.objs.size + 4) (s1.heap.objs.size + 2) (s1.heap.objs.size + 3) s1.heap.objs.size (s1.heap.objs.size + 1) la lb := zipApart lt1 lt2
  have st : ZSt h2 (s1.heap.objs.size + 4) (s1.heap.objs.size + 2) (s1.heap.objs.size + 3) s1.heap.objs.size (s1.heap.objs.size + 1) la lb its1.toArray its2.toArray 0 := ⟨fun _ => ⟨_, _, z1, z3⟩, fun e => absurd e (Nat.lt_irrefl _), z2, z4, z5, (by obtain ⟨o, q1, q2⟩ := pl1.isList; exact ⟨o, z7 _ _ q1, q2⟩), (by obtain ⟨o, q1, q2⟩ := pl2.isList; exact ⟨o, z7 _ _ q1, q2⟩)⟩
  refine call_list_zip (n := xs.length) (s := { s1 with heap := h2 }) (I2.ok.hd hc) D (by simp; omega) (Nat.le_trans (Nat.succ_le_succ hz) (by decide)) st fun h3 acc c as k1 k2 k3 => ?_
  obtain ⟨hp, p1, p2, p3⟩ := padded s1.heap 5
  have I3 := I1.kept (h' := hp) (t' := s1.toks) p2
  have hk : ∀ b ob, hp.get? b = some ob → h3.get? b = some ob := fun b ob e => by
    have e1 := p3 b ob e
    obtain ⟨n1, n2, n3, n4⟩ := lt_off (Heap.lt_size e1)
    exact k1 b ob n1 n2 n3 n4 (z7 b ob e1)
  have hsz : hp.objs.size = h2.objs.size := by rw [p1, z6]
  have hG : W.KdxG (mixKind X.prog X.w) ((xs.zip its2).map fun p => ((Sum.inl p.1 : Key), p.2)) hp.objs.size h3 as := by
    rw [hsz]
    refine ⟨k3.rise, k3.above, fun j a hj => ?_⟩
    obtain ⟨x, y, hx, hy, hpair⟩ := k3.pairs j a hj
    have hx' : its1[j]? = some x := by simpa using hx
    have hy' : its2[j]? = some y := by simpa using hy
    obtain ⟨n, hn⟩ : ∃ n, xs[j]? = some n := ⟨_, List.getElem?_eq_getElem (by have := (List.getElem?_eq_some_iff.mp hx').1; omega)⟩
    obtain ⟨u, hu, ru⟩ := rv1.get (i := j) (x := .int n) (by rw [List.getElem?_map, hn]; rfl)
    rw [hx'] at hu
    cases hu
    obtain ⟨t, rfl⟩ := ru
    refine ⟨_, .inl n, y, ?_, ?_, hpair⟩
    · rw [List.getElem?_map, (List.getElem?_zip_eq_some (z := (n, y))).mpr ⟨hn, hy'⟩]
      rfl
    · show (n == n) = true
      exact beq_self_eq_true n
  have hal : as.length = ((xs.zip its2).map fun p => ((Sum.inl p.1 : Key), p.2)).length := by
    rw [k3.len, List.length_map, List.length_zip]
    omega
  obtain ⟨H3, e1, e2, e3, e4, e5, e6, I4⟩ := LiI.items_laid (kvs := (xs.zip ys).map fun p => ((Sum.inl p.1 : Key), V.int p.2)) (tk := s1.toks) (s := { s1 with heap := hp, toks := s1.toks }) I3 (by rw [List.length_map, List.length_zip]; exact Nat.le_trans (Nat.min_le_left _ _) (Nat.le_trans hz (by decide))) (kv_zip xs ys its2 rv2) hk (by rw [show ({ s1 with heap := hp, toks := s1.toks } : Shared).heap.objs.size = h2.objs.size from hsz]; exact k2) hal hG k3.acc
  refine ⟨.ref h2.objs.size, H3, I4, rfl, q h2.objs.size as H3 e1 ?_ k3.len fun j t hj => ?_⟩
  · rw [← hsz]
    exact e5
  · obtain ⟨q', h1, h2'⟩ := paired_at e6 hj
    rw [List.getElem?_map] at h1
    cases hz' : (xs.zip ys)[j]? with
    | none => rw [hz'] at h1; cases h1
    | some p =>
      rw [hz'] at h1
      cases h1
      obtain ⟨h3', h4'⟩ := List.getElem?_zip_eq_some.mp hz'
      exact ⟨p.1, p.2, h3', h4', h2'⟩
end
end L2

set_option Elab.async false
set_option maxRecDepth 100000
set_option maxHeartbeats 4000000
namespace L2
open PySem PySem.Spec PyProof.Rows
section
variable {X : Cx} {K : PySem.W.Frag}
theorem op_in_seqK (h : X.K = K) : OpR X (compareOp .In) (rIn K false) := by
  subst h
  exact op_in_seq
theorem op_notIn_seqK (h : X.K = K) : OpR X (compareOp .NotIn) (rIn K true) := by
  subst h
  exact op_notIn_seq
theorem inV_ints (a : Int) : ∀ ns : List Int, inV (.int a) (ns.map V.int) = decide (a ∈ ns)
  | [] => rfl
  | n :: ns => by
    have ih := inV_ints a ns
    unfold inV at ih ⊢
    rw [List.map_cons, List.any_cons, ih]
    have e : eqV (.int n) (.int a) = decide (n = a) := rfl
    rw [e, Bool.eq_iff_iff]
    simp
    constructor
    · rintro (e | e)
      · exact .inl e.symm
      · exact .inr e
    · rintro (e | e)
      · exact .inl e.symm
      · exact .inr e
theorem flat_ints {ns : List Int} : (ns.map V.int).all flatV = true := by
  rw [List.all_eq_true]
  intro v hv
  obtain ⟨n, _, rfl⟩ := List.mem_map.mp hv
  rfl
end
end L2

set_option Elab.async false
set_option maxRecDepth 100000
namespace K33
/-! signs as lists of ints; D the most delay, T the turn, L the losses, Z the quiet -/
def prev (S : List Int) (i : Nat) : Int := if i = 0 then 0 else S.getD (i - 1) 0
def Rise (Z : Int) (S : List Int) : Prop := ∀ i, i < S.length → prev S i + 1 ≤ S.getD i 0 ∧ S.getD i 0 ≤ Z - 1
/-- the i-th stop -/
def st (D T Z : Int) (S : List Int) (i : Nat) : Int := if i = 0 then -2 * D else if i ≤ S.length then S.getD (i - 1) 0 else Z + ((i - S.length - 1 : Nat) : Int) * T
def Do (D T : Int) (L : Nat) (Z : Int) (S : List Int) (lim : Int) : Prop := ∀ i, i ≤ S.length → st D T Z S (i + (L + 1)) - st D T Z S i ≤ lim
structure LullOk (D T : Int) (L : Nat) (Z : Int) : Prop where
  d : 1 ≤ D
  t : 2 * D ≤ T
  l : 1 ≤ L
  z : 1 ≤ Z
section
variable {D T Z lim : Int} {L : Nat} {S : List Int}
theorem st_zero : st D T Z S 0 = -2 * D := by unfold st; rw [if_pos rfl]
theorem st_in {i : Nat} (h1 : 1 ≤ i) (h2 : i ≤ S.length) : st D T Z S i = S.getD (i - 1) 0 := by unfold st; rw [if_neg (by omega), if_pos h2]
theorem st_out {i : Nat} : st D T Z S (S.length + 1 + i) = Z + (i : Int) * T := by
  unfold st
  rw [if_neg (by omega), if_neg (by omega), show S.length + 1 + i - S.length - 1 = i by omega]
theorem st_step (k : LullOk D T L Z) (hr : Rise Z S) (i : Nat) : st D T Z S i + 1 ≤ st D T Z S (i + 1) := by
  have hd := k.d
  have ht := k.t
  have hz := k.z
  by_cases h0 : i = 0
  · subst h0
    rw [st_zero]
    by_cases h1 : 1 ≤ S.length
    · rw [st_in (Nat.le_refl _) h1]
      have := (hr 0 (by omega)).1
      unfold prev at this
      rw [if_pos rfl] at this
      show -2 * D + 1 ≤ S.getD 0 0
      omega
    · rw [show 0 + 1 = S.length + 1 + 0 by omega, st_out]
      simp
      omega
  · by_cases h1 : i + 1 ≤ S.length
    · rw [st_in (by omega) h1, st_in (by omega) (by omega)]
      have := (hr i (by omega)).1
      unfold prev at this
      rw [if_neg h0] at this
      exact this
    · by_cases h2 : i ≤ S.length
      · rw [st_in (by omega) h2, show i + 1 = S.length + 1 + 0 by omega, st_out]
        have := (hr (i - 1) (by omega)).2
        rw [show ((0 : Nat) : Int) * T = 0 by simp]
        omega
      · obtain ⟨j, rfl⟩ : ∃ j, i = S.length + 1 + j := ⟨i - S.length - 1, by omega⟩
        rw [st_out, show S.length + 1 + j + 1 = S.length + 1 + (j + 1) by omega, st_out]
        have e : ((j + 1 : Nat) : Int) * T = (j : Int) * T + T := by rw [Int.natCast_add, Int.add_mul]; simp
        rw [e]
        omega
theorem st_add (k : LullOk D T L Z) (hr : Rise Z S) (i : Nat) : ∀ n : Nat, st D T Z S i + (n : Int) ≤ st D T Z S (i + n)
  | 0 => by simp
  | n + 1 => by
    have h1 := st_add k hr i n
    have h2 := st_step k hr (i + n)
    rw [show i + (n + 1) = i + n + 1 by omega]
    omega
theorem rise_low (hr : Rise Z S) : ∀ i, i < S.length → ((i : Int) + 1) ≤ S.getD i 0
  | 0, h => by
    have := (hr 0 h).1
    unfold prev at this
    rw [if_pos rfl] at this
    simpa using this
  | i + 1, h => by
    have h1 := rise_low hr i (by omega)
    have := (hr (i + 1) h).1
    unfold prev at this
    rw [if_neg (by omega), Nat.add_sub_cancel] at this
    omega
/-! the latest signs -/
def lots (L p : Nat) : Nat := (p + L) / (L + 1)
def latA (Z : Int) (m p : Nat) : Int := Z - 1 - ((m : Int) - (p : Int))
def latB (D : Int) (L : Nat) (lim : Int) (p : Nat) : Int := (lots L p : Int) * lim - 2 * D - ((lots L p : Int) * ((L + 1 : Nat) : Int) - (p : Int))
def latP (D : Int) (L : Nat) (Z lim : Int) (m p : Nat) : Int := if L + 1 ≤ m then (if latB D L lim p < latA Z m p then latB D L lim p else latA Z m p) else latA Z m p
def lat (D : Int) (L : Nat) (Z lim : Int) (m : Nat) : List Int := (List.range m).map fun j => latP D L Z lim m (j + 1)
theorem lat_len {m : Nat} : (lat D L Z lim m).length = m := by simp [lat]
theorem getD_mr {f : Nat → Int} {m i : Nat} (h : i < m) : ((List.range m).map f).getD i 0 = f i := by
  rw [List.getD_eq_getElem?_getD, List.getElem?_map, List.getElem?_range h]
  rfl
theorem lat_get {m j : Nat} (h : j < m) : (lat D L Z lim m).getD j 0 = latP D L Z lim m (j + 1) := getD_mr h
theorem latP_leA {m p : Nat} : latP D L Z lim m p ≤ latA Z m p := by
  unfold latP
  split
  · split <;> omega
  · omega
theorem latP_leB {m p : Nat} (h : L + 1 ≤ m) : latP D L Z lim m p ≤ latB D L lim p := by
  unfold latP
  rw [if_pos h]
  split <;> omega
theorem latP_ge {m p : Nat} {x : Int} (h1 : x ≤ latA Z m p) (h2 : L + 1 ≤ m → x ≤ latB D L lim p) : x ≤ latP D L Z lim m p := by
  unfold latP
  split
  · rename_i h
    have := h2 h
    split <;> omega
  · exact h1
theorem lots_le {p : Nat} : lots L p * (L + 1) ≤ p + L := Nat.div_mul_le_self _ _
theorem lots_ge {p : Nat} : p ≤ lots L p * (L + 1) := by
  have h := Nat.div_add_mod (p + L) (L + 1)
  have h2 := Nat.mod_lt (p + L) (show 0 < L + 1 by omega)
  have e : lots L p * (L + 1) = (L + 1) * ((p + L) / (L + 1)) := Nat.mul_comm _ _
  omega
theorem lots_add {p : Nat} : lots L (p + (L + 1)) = lots L p + 1 := by
  unfold lots
  rw [show p + (L + 1) + L = p + L + (L + 1) by omega, Nat.add_div_right _ (by omega)]
theorem lots_succ {p : Nat} : lots L (p + 1) = lots L p ∨ (lots L (p + 1) = lots L p + 1 ∧ p = lots L p * (L + 1)) := by
  have a1 := @lots_le L p
  have a2 := @lots_ge L p
  have b1 := @lots_le L (p + 1)
  have b2 := @lots_ge L (p + 1)
  generalize lots L p = q at *
  generalize lots L (p + 1) = r at *
  rcases Nat.lt_trichotomy r q with h | h | h
  · exfalso
    have : (r + 1) * (L + 1) ≤ q * (L + 1) := Nat.mul_le_mul_right _ h
    rw [Nat.add_mul] at this
    omega
  · exact .inl h
  · right
    have h1 : (q + 1) * (L + 1) ≤ r * (L + 1) := Nat.mul_le_mul_right _ h
    rw [Nat.add_mul] at h1
    have hr : r = q + 1 := by
      rcases Nat.lt_or_ge r (q + 2) with h2 | h2
      · omega
      · exfalso
        have h3 : (q + 2) * (L + 1) ≤ r * (L + 1) := Nat.mul_le_mul_right _ h2
        rw [Nat.add_mul] at h3
        omega
    refine ⟨hr, ?_⟩
    omega
theorem cmul (a b : Nat) : ((a * b : Nat) : Int) = (a : Int) * (b : Int) := by simp
/-- the chain of stops -/
theorem chain (hd : Do D T L Z S lim) : ∀ q : Nat, (q ≤ 0 ∨ (q - 1) * (L + 1) ≤ S.length) → st D T Z S (q * (L + 1)) ≤ -2 * D + (q : Int) * lim
  | 0, _ => by
    rw [Nat.zero_mul, st_zero]
    simp
  | q + 1, h => by
    have h' : q * (L + 1) ≤ S.length := by
      rcases h with h | h
      · omega
      · simpa using h
    have ih := chain hd q (by
      rcases Nat.eq_zero_or_pos q with z | z
      · left; omega
      · right
        exact Nat.le_trans (Nat.mul_le_mul_right _ (by omega)) h')
    have h1 := hd (q * (L + 1)) h'
    have e : (q + 1) * (L + 1) = q * (L + 1) + (L + 1) := by rw [Nat.add_mul, Nat.one_mul]
    have e2 : ((q + 1 : Nat) : Int) * lim = (q : Int) * lim + lim := by rw [Int.natCast_add, Int.add_mul]; simp
    rw [e, e2]
    omega
theorem le_lat (k : LullOk D T L Z) (hr : Rise Z S) (hd : Do D T L Z S lim) {p : Nat} (_ : 1 ≤ p) (pm : p ≤ S.length) : st D T Z S p ≤ latP D L Z lim S.length p := by
  refine latP_ge ?_ fun _ => ?_
  · have h := st_add k hr p (S.length + 1 - p)
    rw [show p + (S.length + 1 - p) = S.length + 1 + 0 by omega, st_out] at h
    unfold latA
    simp at h
    omega
  · have a1 := @lots_le L p
    have a2 := @lots_ge L p
    have h1 := chain hd (lots L p) (by
      right
      rcases Nat.eq_zero_or_pos (lots L p) with z | z
      · rw [z]
        simp
      · have : (lots L p - 1) * (L + 1) + (L + 1) = lots L p * (L + 1) := by
          rw [← Nat.succ_mul]
          congr 1
          omega
        omega)
    have h2 := st_add k hr p (lots L p * (L + 1) - p)
    rw [show p + (lots L p * (L + 1) - p) = lots L p * (L + 1) by omega] at h2
    unfold latB
    have e := cmul (lots L p) (L + 1)
    omega
theorem lim_ge (k : LullOk D T L Z) (hr : Rise Z S) (hd : Do D T L Z S lim) : ((L + 1 : Nat) : Int) ≤ lim := by
  have h1 := hd 0 (by omega)
  have h2 := st_add k hr 0 (L + 1)
  omega
theorem lat_ok (k : LullOk D T L Z) (hr : Rise Z S) (hd : Do D T L Z S lim) : Rise Z (lat D L Z lim S.length) ∧ Do D T L Z (lat D L Z lim S.length) lim := by
  have hl := lim_ge k hr hd
  have hB : ∀ p, latB D L lim p + 1 ≤ latB D L lim (p + 1) := fun p => by
    unfold latB
    rcases @lots_succ L p with h | ⟨h, hp⟩
    · rw [h]
      omega
    · rw [h]
      have e1 : ((lots L p + 1 : Nat) : Int) * lim = (lots L p : Int) * lim + lim := by rw [Int.natCast_add, Int.add_mul]; simp
      have e2 : ((lots L p + 1 : Nat) : Int) * ((L + 1 : Nat) : Int) = (lots L p : Int) * ((L + 1 : Nat) : Int) + ((L + 1 : Nat) : Int) := by rw [Int.natCast_add, Int.add_mul]; simp
      rw [e1, e2]
      omega
  have hBa : ∀ p, latB D L lim (p + (L + 1)) = latB D L lim p + lim := fun p => by
    unfold latB
    rw [lots_add]
    have e1 : ((lots L p + 1 : Nat) : Int) * lim = (lots L p : Int) * lim + lim := by rw [Int.natCast_add, Int.add_mul]; simp
    have e2 : ((lots L p + 1 : Nat) : Int) * ((L + 1 : Nat) : Int) = (lots L p : Int) * ((L + 1 : Nat) : Int) + ((L + 1 : Nat) : Int) := by rw [Int.natCast_add, Int.add_mul]; simp
    rw [e1, e2]
    omega
  refine ⟨fun i hi => ?_, fun i hi => ?_⟩
  · rw [lat_len] at hi
    rw [lat_get hi]
    refine ⟨?_, ?_⟩
    · unfold prev
      by_cases h0 : i = 0
      · rw [if_pos h0]
        subst h0
        have h1 := le_lat k hr hd (p := 1) (by omega) (by omega)
        rw [st_in (by omega) (by omega)] at h1
        have h2 := (hr 0 hi).1
        unfold prev at h2
        rw [if_pos rfl] at h2
        have e : (1 : Nat) - 1 = 0 := rfl
        rw [e] at h1
        show 0 + 1 ≤ latP D L Z lim S.length 1
        omega
      · rw [if_neg h0, lat_get (by omega), show i - 1 + 1 = i by omega]
        refine latP_ge ?_ fun hb => ?_
        · have := @latP_leA D Z lim L S.length i
          unfold latA at this ⊢
          omega
        · have := @latP_leB D Z lim L S.length i hb
          have := hB i
          omega
    · have := @latP_leA D Z lim L S.length (i + 1)
      unfold latA at this
      omega
  · rw [lat_len] at hi
    have far : ∀ j, S.length < j → st D T Z (lat D L Z lim S.length) j = st D T Z S j := fun j hj => by
      unfold st
      rw [lat_len, if_neg (by omega), if_neg (by omega), if_neg (by omega), if_neg (by omega)]
    have inn : ∀ j, 1 ≤ j → j ≤ S.length → st D T Z (lat D L Z lim S.length) j = latP D L Z lim S.length j := fun j h1 h2 => by
      rw [st_in h1 (by rw [lat_len]; exact h2), lat_get (by omega), show j - 1 + 1 = j by omega]
    by_cases h0 : i = 0
    · subst h0
      rw [st_zero, Nat.zero_add]
      by_cases hb : L + 1 ≤ S.length
      · rw [inn _ (by omega) hb]
        have h1 := @latP_leB D Z lim L S.length (L + 1) hb
        have h2 := hBa 0
        have e0 : latB D L lim 0 = - 2 * D := by
          unfold latB
          have : lots L 0 = 0 := Nat.div_eq_of_lt (by omega)
          rw [this]
          simp
          omega
        rw [Nat.zero_add] at h2
        omega
      · rw [far _ (by omega)]
        have h1 := hd 0 (by omega)
        rw [st_zero, Nat.zero_add] at h1
        exact h1
    · rw [inn i (by omega) hi]
      by_cases hb : i + (L + 1) ≤ S.length
      · rw [inn _ (by omega) hb]
        have a1 := @latP_leA D Z lim L S.length (i + (L + 1))
        have a2 := @latP_leB D Z lim L S.length (i + (L + 1)) (by omega)
        have : latP D L Z lim S.length (i + (L + 1)) - lim ≤ latP D L Z lim S.length i := by
          refine latP_ge ?_ fun _ => ?_
          · unfold latA at a1 ⊢
            omega
          · have := hBa i
            omega
        omega
      · rw [far _ (by omega)]
        have h1 := hd i hi
        have h2 := le_lat k hr hd (p := i) (by omega) hi
        omega
/-! one sign more -/
theorem first_gap : ∀ (n : Nat), (∀ i, i < n → S.getD i 0 = (i : Int) + 1) ∨ ∃ j, j < n ∧ (∀ i, i < j → S.getD i 0 = (i : Int) + 1) ∧ S.getD j 0 ≠ (j : Int) + 1
  | 0 => .inl fun _ h => absurd h (Nat.not_lt_zero _)
  | n + 1 => by
    rcases first_gap n with h | ⟨j, h1, h2, h3⟩
    · by_cases e : S.getD n 0 = (n : Int) + 1
      · left
        intro i hi
        by_cases hi' : i < n
        · exact h i hi'
        · rw [show i = n by omega]
          exact e
      · exact .inr ⟨n, by omega, h, e⟩
    · exact .inr ⟨j, by omega, h2, h3⟩
theorem more (k : LullOk D T L Z) (hr : Rise Z S) (hd : Do D T L Z S lim) (hm : (S.length : Int) + 1 ≤ Z - 1) : ∃ S', S'.length = S.length + 1 ∧ Rise Z S' ∧ Do D T L Z S' lim := by
  obtain ⟨j, jm, hj1, hj2⟩ : ∃ j, j ≤ S.length ∧ (∀ i, i < j → S.getD i 0 = (i : Int) + 1) ∧ (j < S.length → (j : Int) + 2 ≤ S.getD j 0) := by
    rcases @first_gap S S.length with h | ⟨j, h1, h2, h3⟩
    · exact ⟨S.length, Nat.le_refl _, h, fun h => absurd h (Nat.lt_irrefl _)⟩
    · refine ⟨j, by omega, h2, fun _ => ?_⟩
      have := rise_low hr j h1
      omega
  let g : Nat → Int := fun i => if i < j then S.getD i 0 else if i = j then (j : Int) + 1 else S.getD (i - 1) 0
  have g1 : ∀ i, i < j → g i = S.getD i 0 := fun i h => if_pos h
  have g2 : g j = (j : Int) + 1 := by show (if j < j then _ else if j = j then _ else _) = _; rw [if_neg (by omega), if_pos rfl]
  have g3 : ∀ i, j < i → g i = S.getD (i - 1) 0 := fun i h => by show (if i < j then _ else if i = j then _ else _) = _; rw [if_neg (by omega), if_neg (by omega)]
  have hlen : ((List.range (S.length + 1)).map g).length = S.length + 1 := by simp
  have hg : ∀ i, i < S.length + 1 → ((List.range (S.length + 1)).map g).getD i 0 = g i := fun i h => getD_mr h
  generalize hS : (List.range (S.length + 1)).map g = S' at hlen hg
  -- the stops
  have s0 : ∀ i, i ≤ j → st D T Z S' i = st D T Z S i := fun i h => by
    by_cases h0 : i = 0
    · rw [h0, st_zero, st_zero]
    · rw [st_in (by omega) (by omega), st_in (by omega) (by omega), hg _ (by omega), g1 _ (by omega)]
  have s1 : st D T Z S' (j + 1) = (j : Int) + 1 := by
    rw [st_in (by omega) (by omega), hg _ (by omega), Nat.add_sub_cancel, g2]
  have s2 : ∀ i, j + 1 ≤ i → st D T Z S' (i + 1) = st D T Z S i := fun i h => by
    by_cases h1 : i ≤ S.length
    · rw [st_in (by omega) (by omega), st_in (by omega) h1, hg _ (by omega), g3 _ (by omega), Nat.add_sub_cancel]
    · obtain ⟨q, rfl⟩ : ∃ q, i = S.length + 1 + q := ⟨i - S.length - 1, by omega⟩
      rw [st_out, show S.length + 1 + q + 1 = S'.length + 1 + q by omega, st_out]
  have up : (j : Int) + 2 ≤ st D T Z S (j + 1) := by
    by_cases h : j < S.length
    · rw [st_in (by omega) (by omega), Nat.add_sub_cancel]
      exact hj2 h
    · rw [show j + 1 = S.length + 1 + 0 by omega, st_out]
      simp
      omega
  have dn : st D T Z S j ≤ (j : Int) := by
    by_cases h0 : j = 0
    · rw [h0, st_zero]
      have := k.d
      simp
      omega
    · rw [st_in (by omega) jm, hj1 _ (by omega)]
      omega
  refine ⟨S', hlen, fun i hi => ?_, fun i hi => ?_⟩
  · rw [hg i (by omega)]
    rcases Nat.lt_trichotomy i j with h | h | h
    · rw [g1 _ h]
      have := hr i (by omega)
      refine ⟨?_, this.2⟩
      have e : prev S' i = prev S i := by
        unfold prev
        by_cases h0 : i = 0
        · rw [if_pos h0, if_pos h0]
        · rw [if_neg h0, if_neg h0, hg _ (by omega), g1 _ (by omega)]
      rw [e]
      exact this.1
    · subst h
      rw [g2]
      refine ⟨?_, by omega⟩
      unfold prev
      by_cases h0 : i = 0
      · rw [if_pos h0]
        omega
      · rw [if_neg h0, hg _ (by omega), g1 _ (by omega), hj1 _ (by omega)]
        omega
    · rw [g3 _ h]
      have := hr (i - 1) (by omega)
      refine ⟨?_, this.2⟩
      unfold prev
      rw [if_neg (by omega), hg _ (by omega)]
      by_cases h1 : i - 1 = j
      · rw [h1, g2]
        have := hj2 (by omega)
        omega
      · rw [g3 _ (by omega)]
        have := this.1
        unfold prev at this
        rw [if_neg (by omega)] at this
        exact this
  · rw [hlen] at hi
    by_cases h : i ≤ j
    · rw [s0 i h]
      have h1 := hd i (by omega)
      have h2 : st D T Z S' (i + (L + 1)) ≤ st D T Z S (i + (L + 1)) := by
        rcases Nat.lt_trichotomy (i + (L + 1)) (j + 1) with h | h | h
        · rw [s0 _ (by omega)]
          omega
        · rw [h, s1]
          omega
        · obtain ⟨q, hq⟩ : ∃ q, i + (L + 1) = q + 1 := ⟨i + L, rfl⟩
          rw [hq, s2 q (by omega)]
          have := st_step k hr q
          omega
      omega
    · obtain ⟨q, rfl⟩ : ∃ q, i = q + 1 := ⟨i - 1, by omega⟩
      rw [show q + 1 + (L + 1) = q + (L + 1) + 1 by omega, s2 _ (by omega)]
      have h1 := hd q (by omega)
      have h2 : st D T Z S q ≤ st D T Z S' (q + 1) := by
        by_cases h : q = j
        · rw [h, s1]
          omega
        · rw [s2 q (by omega)]
          omega
      omega
/-- so many signs do -/
def Ok (D T : Int) (L : Nat) (Z lim : Int) (m : Nat) : Prop := Rise Z (lat D L Z lim m) ∧ Do D T L Z (lat D L Z lim m) lim
theorem ok_of (k : LullOk D T L Z) (hr : Rise Z S) (hd : Do D T L Z S lim) : Ok D T L Z lim S.length := lat_ok k hr hd
theorem ok_succ (k : LullOk D T L Z) {m : Nat} (h : Ok D T L Z lim m) (hm : (m : Int) + 1 ≤ Z - 1) : Ok D T L Z lim (m + 1) := by
  obtain ⟨S', hl, h1, h2⟩ := more k h.1 h.2 (by rw [lat_len]; exact hm)
  rw [lat_len] at hl
  rw [← hl]
  exact ok_of k h1 h2
theorem ok_mono (k : LullOk D T L Z) {m : Nat} (h : Ok D T L Z lim m) : ∀ n : Nat, ((m + n : Nat) : Int) ≤ Z - 1 → Ok D T L Z lim (m + n)
  | 0, _ => h
  | n + 1, hz => by
    have h1 := ok_mono k h n (by omega)
    have h2 : Ok D T L Z lim (m + n + 1) := ok_succ k h1 (by omega)
    exact h2
end
end K33

set_option Elab.async false
set_option maxRecDepth 100000
namespace K33
/-! signs of a period -/
def sgn (Z p : Int) : List Int := (List.range ((Z - 1) / p).toNat).map fun (i : Nat) => p + (i : Int) * p
theorem sgn_len {Z p : Int} : (sgn Z p).length = ((Z - 1) / p).toNat := by simp [sgn]
theorem sgn_rise {Z p : Int} (hp : 1 ≤ p) (_ : 1 ≤ Z) : Rise Z (sgn Z p) := fun i hi => by
  rw [sgn_len] at hi
  have h0 : ((i : Int) + 1) * p ≤ Z - 1 := by
    have h1 : (i : Int) + 1 ≤ (Z - 1) / p := by omega
    exact Int.le_trans (Int.mul_le_mul_of_nonneg_right h1 (by omega)) (Int.ediv_mul_le _ (by omega))
  have h2 : ((i : Int) + 1) * p = p + (i : Int) * p := by rw [Int.add_mul, Int.one_mul, Int.add_comm]
  unfold sgn
  rw [getD_mr hi]
  refine ⟨?_, by omega⟩
  unfold prev
  by_cases h : i = 0
  · rw [if_pos h]
    subst h
    simp
    omega
  · rw [if_neg h, getD_mr (by omega)]
    obtain ⟨j, rfl⟩ : ∃ j, i = j + 1 := ⟨i - 1, by omega⟩
    rw [Nat.add_sub_cancel]
    have e : ((j + 1 : Nat) : Int) * p = (j : Int) * p + p := by rw [Int.natCast_add, Int.add_mul]; simp
    omega
/-- a greater period never has more signs -/
theorem cnt_le {Z p q : Int} (hz : 1 ≤ Z) (hp : 1 ≤ p) (h : p ≤ q) : (Z - 1) / q ≤ (Z - 1) / p := by
  obtain ⟨z, hz'⟩ : ∃ z : Nat, Z - 1 = (z : Int) := ⟨(Z - 1).toNat, by omega⟩
  obtain ⟨a, rfl⟩ : ∃ a : Nat, p = (a : Int) := ⟨p.toNat, by omega⟩
  obtain ⟨b, rfl⟩ : ∃ b : Nat, q = (b : Int) := ⟨q.toNat, by omega⟩
  rw [hz', ← Int.natCast_ediv, ← Int.natCast_ediv]
  exact Int.ofNat_le.mpr (Nat.div_le_div_left (by omega) (by omega))
/-! spans -/
def isLow (g : List Int) (p : Int) : Bool := !decide (p - 1 ∈ g)
def isHigh (g : List Int) (p : Int) : Bool := !decide (p + 1 ∈ g)
def lows (g : List Int) : List Int := g.filter (isLow g)
def highs (g : List Int) : List Int := g.filter (isHigh g)
def Asc (g : List Int) : Prop := List.Pairwise (· < ·) g
def spanStep (F : List (Int × Int)) (p : Int) : List (Int × Int) := match F.getLast? with
  | some q => if q.2 = p - 1 then F.dropLast ++ [(q.1, p)] else F ++ [(p, p)]
  | none => F ++ [(p, p)]
def spans (g : List Int) : List (Int × Int) := g.foldl spanStep []
theorem snocs {α : Type} {S : List α} {n : Nat} (h : S.length = n + 1) : ∃ S0 a, S = S0 ++ [a] ∧ S0.length = n := by
  have hne : S ≠ [] := fun z => by rw [z] at h; cases h
  refine ⟨S.dropLast, S.getLast hne, (List.dropLast_concat_getLast hne).symm, ?_⟩
  rw [List.length_dropLast, h]
  rfl
theorem asc_snoc {g : List Int} {p : Int} (h : Asc (g ++ [p])) : Asc g ∧ ∀ x ∈ g, x < p := by
  unfold Asc at h
  rw [List.pairwise_append] at h
  exact ⟨h.1, fun x hx => h.2.2 x hx p (List.mem_singleton.mpr rfl)⟩
theorem lows_snoc {g : List Int} {p : Int} (h : ∀ x ∈ g, x < p) : lows (g ++ [p]) = lows g ++ (if p - 1 ∈ g then [] else [p]) := by
  unfold lows
  rw [List.filter_append]
  congr 1
  · refine List.filter_congr fun x hx => ?_
    unfold isLow
    have := h x hx
    have e : (x - 1 ∈ g ++ [p]) ↔ x - 1 ∈ g := by
      rw [List.mem_append, List.mem_singleton]
      constructor
      · rintro (e | e)
        · exact e
        · omega
      · exact .inl
    rw [decide_eq_decide.mpr e]
  · have e : (p - 1 ∈ g ++ [p]) ↔ p - 1 ∈ g := by
      rw [List.mem_append, List.mem_singleton]
      constructor
      · rintro (e | e)
        · exact e
        · omega
      · exact .inl
    by_cases hp : p - 1 ∈ g
    · rw [if_pos hp]
      simp [isLow, hp]
    · rw [if_neg hp]
      have : isLow (g ++ [p]) p = true := by unfold isLow; rw [decide_eq_false (fun z => hp (e.mp z))]; rfl
      simp [this]
theorem highs_snoc {g : List Int} {p : Int} (h : ∀ x ∈ g, x < p) : highs (g ++ [p]) = g.filter (fun x => isHigh g x && !decide (x + 1 = p)) ++ [p] := by
  unfold highs
  rw [List.filter_append]
  congr 1
  · refine List.filter_congr fun x _ => ?_
    unfold isHigh
    rw [show decide (x + 1 ∈ g ++ [p]) = (decide (x + 1 ∈ g) || decide (x + 1 = p)) by
      rw [Bool.eq_iff_iff]
      simp [List.mem_append]]
    rw [Bool.not_or]
  · have : isHigh (g ++ [p]) p = true := by
      unfold isHigh
      rw [decide_eq_false]
      · rfl
      · rw [List.mem_append, List.mem_singleton]
        rintro (e | e)
        · have := h _ e
          omega
        · omega
    simp [this]
theorem high_last {g : List Int} {p : Int} (h : ∀ x ∈ g, x < p) : ∃ hs, highs (g ++ [p]) = hs ++ [p] := ⟨_, highs_snoc h⟩
theorem last_is {g : List Int} {p : Int} (ha : Asc g) (h : ∀ x ∈ g, x < p) (hm : p - 1 ∈ g) : ∃ g1, g = g1 ++ [p - 1] := by
  obtain ⟨n, hn⟩ : ∃ n, g.length = n + 1 := by
    cases g with
    | nil => cases hm
    | cons x xs => exact ⟨xs.length, rfl⟩
  obtain ⟨g1, q, rfl, _⟩ := snocs hn
  obtain ⟨_, h2⟩ := asc_snoc ha
  have hq := h q (by simp)
  rcases List.mem_append.mp hm with e | e
  · have := h2 _ e
    omega
  · rw [List.mem_singleton.mp e]
    exact ⟨g1, rfl⟩
theorem spans_snoc (g : List Int) (p : Int) : spans (g ++ [p]) = spanStep (spans g) p := by
  unfold spans
  rw [List.foldl_append]
  rfl
theorem spans_ok : ∀ (n : Nat) (g : List Int), g.length = n → Asc g → (spans g).map Prod.fst = lows g ∧ (spans g).map Prod.snd = highs g ∧ (spans g).getLast?.map Prod.snd = g.getLast?
  | 0, g, hl, _ => by
    have : g = [] := List.eq_nil_of_length_eq_zero hl
    subst this
    exact ⟨rfl, rfl, rfl⟩
  | n + 1, g, hl, ha => by
    obtain ⟨g0, p, rfl, h0⟩ := snocs hl
    obtain ⟨ha0, hlt⟩ := asc_snoc ha
    obtain ⟨i1, i2, i3⟩ := spans_ok n g0 h0 ha0
    rw [spans_snoc, lows_snoc hlt]
    have hlast : (g0 ++ [p]).getLast? = some p := by simp
    rw [hlast]
    by_cases hm : p - 1 ∈ g0
    · obtain ⟨g1, rfl⟩ := last_is ha0 hlt hm
      obtain ⟨ha1, hlt1⟩ := asc_snoc ha0
      rw [show (g1 ++ [p - 1]).getLast? = some (p - 1) by simp] at i3
      obtain ⟨q, hq, hq2⟩ : ∃ q, (spans (g1 ++ [p - 1])).getLast? = some q ∧ q.2 = p - 1 := by
        cases hs : (spans (g1 ++ [p - 1])).getLast? with
        | none => rw [hs] at i3; cases i3
        | some q =>
          rw [hs] at i3
          exact ⟨q, rfl, Option.some.inj i3⟩
      have hne : spans (g1 ++ [p - 1]) ≠ [] := fun z => by rw [z] at hq; cases hq
      have hF : spans (g1 ++ [p - 1]) = (spans (g1 ++ [p - 1])).dropLast ++ [q] := by
        rw [List.getLast?_eq_some_getLast hne] at hq
        have := List.dropLast_concat_getLast hne
        rw [← Option.some.inj hq]
        exact this.symm
      unfold spanStep
      rw [hq]
      dsimp only
      rw [if_pos hq2, if_pos hm]
      generalize (spans (g1 ++ [p - 1])).dropLast = D at hF ⊢
      rw [hF] at i1 i2
      rw [List.map_append] at i1 i2
      refine ⟨?_, ?_, by simp⟩
      · rw [List.map_append, List.append_nil, ← i1]
        rfl
      · rw [List.map_append, highs_snoc hlt, List.filter_append]
        obtain ⟨hs, he⟩ := high_last hlt1
        have e1 : g1.filter (fun x => isHigh (g1 ++ [p - 1]) x && !decide (x + 1 = p)) = g1.filter (isHigh (g1 ++ [p - 1])) := List.filter_congr fun x hx => by
          have := hlt1 x hx
          rw [decide_eq_false (by omega)]
          simp
        have e2 : [p - 1].filter (fun x => isHigh (g1 ++ [p - 1]) x && !decide (x + 1 = p)) = [] := by
          simp
        have e3 : highs (g1 ++ [p - 1]) = g1.filter (isHigh (g1 ++ [p - 1])) ++ [p - 1].filter (isHigh (g1 ++ [p - 1])) := by
          unfold highs
          rw [List.filter_append]
        have e4 : [p - 1].filter (isHigh (g1 ++ [p - 1])) = [p - 1] := by
          have : isHigh (g1 ++ [p - 1]) (p - 1) = true := by
            unfold isHigh
            rw [decide_eq_false]
            · rfl
            · rw [List.mem_append, List.mem_singleton]
              rintro (e | e)
              · have := hlt1 _ e
                omega
              · omega
          simp [this]
        rw [e3, e4] at i2
        rw [e1, e2, List.append_nil]
        have : D.map Prod.snd = g1.filter (isHigh (g1 ++ [p - 1])) := by
          have h2 : [q].map Prod.snd = [p - 1] := by rw [← hq2]; rfl
          rw [h2] at i2
          exact List.append_cancel_right i2
        rw [this]
        rfl
    · rw [if_neg hm]
      have hF : spanStep (spans g0) p = spans g0 ++ [(p, p)] := by
        unfold spanStep
        cases hs : (spans g0).getLast? with
        | none => rfl
        | some q =>
          dsimp only
          rw [if_neg]
          intro e
          rw [hs] at i3
          have h5 : g0.getLast? = some q.2 := i3.symm
          exact hm (by rw [← e]; exact List.mem_of_getLast? h5)
      rw [hF]
      refine ⟨?_, ?_, by simp⟩
      · rw [List.map_append, i1]
        rfl
      · rw [List.map_append, i2, highs_snoc hlt]
        have e1 : g0.filter (fun x => isHigh g0 x && !decide (x + 1 = p)) = highs g0 := List.filter_congr fun x hx => by
          rw [decide_eq_false (fun e => hm (by rw [← e, Int.add_sub_cancel]; exact hx))]
          simp
        rw [e1]
        rfl
end K33

set_option Elab.async false
set_option maxRecDepth 100000
set_option maxHeartbeats 4000000
namespace K33
open PySem PySem.Spec PyProof.Rows L2
def top (i : Nat) : Stmt := PySem.Challenge.pw_wholeline_k32_whole_good_periods.main.body.getD i (.Pass ⟨0, 0, 0, 0⟩)
abbrev s_BadNumber_init : Stmt := inClass (top 4) 0
abbrev nm_BadNumber_init : List Str := ["self", "number"]
abbrev pm_BadNumber_init : List Str := ["self", "number"]
theorem sc_BadNumber_init : FnScope nm_BadNumber_init pm_BadNumber_init (defScope s_BadNumber_init) := ⟨rfl, rfl, rfl, by decide +kernel, rfl, by decide +kernel, by decide +kernel⟩

abbrev s_is_integer : Stmt := top 6
abbrev nm_is_integer : List Str := ["value"]
abbrev pm_is_integer : List Str := ["value"]
theorem sc_is_integer : FnScope nm_is_integer pm_is_integer (defScope s_is_integer) := ⟨rfl, rfl, rfl, by decide +kernel, rfl, by decide +kernel, by decide +kernel⟩

abbrev s_is_between : Stmt := top 7
abbrev nm_is_between : List Str := ["value", "low", "high"]
abbrev pm_is_between : List Str := ["value", "low", "high"]
theorem sc_is_between : FnScope nm_is_between pm_is_between (defScope s_is_between) := ⟨rfl, rfl, rfl, by decide +kernel, rfl, by decide +kernel, by decide +kernel⟩

abbrev s_check_lull : Stmt := top 14
abbrev nm_check_lull : List Str := ["delay", "turn", "losses"]
abbrev pm_check_lull : List Str := ["delay", "turn", "losses"]
theorem sc_check_lull : FnScope nm_check_lull pm_check_lull (defScope s_check_lull) := ⟨rfl, rfl, rfl, by decide +kernel, rfl, by decide +kernel, by decide +kernel⟩

abbrev s_check_quiet : Stmt := top 15
abbrev nm_check_quiet : List Str := ["quiet"]
abbrev pm_check_quiet : List Str := ["quiet"]
theorem sc_check_quiet : FnScope nm_check_quiet pm_check_quiet (defScope s_check_quiet) := ⟨rfl, rfl, rfl, by decide +kernel, rfl, by decide +kernel, by decide +kernel⟩

abbrev s_Lull_init : Stmt := inClass (top 16) 0
abbrev nm_Lull_init : List Str := ["self", "delay", "turn", "losses", "quiet"]
abbrev pm_Lull_init : List Str := ["self", "delay", "turn", "losses", "quiet"]
theorem sc_Lull_init : FnScope nm_Lull_init pm_Lull_init (defScope s_Lull_init) := ⟨rfl, rfl, rfl, by decide +kernel, rfl, by decide +kernel, by decide +kernel⟩

abbrev s_is_sign_behind : Stmt := top 18
abbrev nm_is_sign_behind : List Str := ["lull", "signs", "index", "least"]
abbrev pm_is_sign_behind : List Str := ["lull", "signs", "index"]
theorem sc_is_sign_behind : FnScope nm_is_sign_behind pm_is_sign_behind (defScope s_is_sign_behind) := ⟨rfl, rfl, rfl, by decide +kernel, rfl, by decide +kernel, by decide +kernel⟩

abbrev s_are_signs : Stmt := top 19
abbrev nm_are_signs : List Str := ["lull", "value", "index"]
abbrev pm_are_signs : List Str := ["lull", "value"]
theorem sc_are_signs : FnScope nm_are_signs pm_are_signs (defScope s_are_signs) := ⟨rfl, rfl, rfl, by decide +kernel, rfl, by decide +kernel, by decide +kernel⟩

abbrev s_stops_of : Stmt := top 20
abbrev nm_stops_of : List Str := ["lull", "signs", "sent", "lost"]
abbrev pm_stops_of : List Str := ["lull", "signs"]
theorem sc_stops_of : FnScope nm_stops_of pm_stops_of (defScope s_stops_of) := ⟨rfl, rfl, rfl, by decide +kernel, rfl, by decide +kernel, by decide +kernel⟩

abbrev s_widest : Stmt := top 21
abbrev nm_widest : List Str := ["lull", "told", "behind", "sooner", "later"]
abbrev pm_widest : List Str := ["lull", "told"]
theorem sc_widest : FnScope nm_widest pm_widest (defScope s_widest) := ⟨rfl, rfl, rfl, by decide +kernel, rfl, by decide +kernel, by decide +kernel⟩

abbrev s_signs_each : Stmt := top 22
abbrev nm_signs_each : List Str := ["lull", "period"]
abbrev pm_signs_each : List Str := ["lull", "period"]
theorem sc_signs_each : FnScope nm_signs_each pm_signs_each (defScope s_signs_each) := ⟨rfl, rfl, rfl, by decide +kernel, rfl, by decide +kernel, by decide +kernel⟩

abbrev s_check_limit : Stmt := top 25
abbrev nm_check_limit : List Str := ["limit"]
abbrev pm_check_limit : List Str := ["limit"]
theorem sc_check_limit : FnScope nm_check_limit pm_check_limit (defScope s_check_limit) := ⟨rfl, rfl, rfl, by decide +kernel, rfl, by decide +kernel, by decide +kernel⟩

abbrev s_signs_do : Stmt := top 26
abbrev nm_signs_do : List Str := ["lull", "limit", "signs"]
abbrev pm_signs_do : List Str := ["lull", "limit", "signs"]
theorem sc_signs_do : FnScope nm_signs_do pm_signs_do (defScope s_signs_do) := ⟨rfl, rfl, rfl, by decide +kernel, rfl, by decide +kernel, by decide +kernel⟩

abbrev s_periods_that_do : Stmt := top 27
abbrev nm_periods_that_do : List Str := ["lull", "limit", "period"]
abbrev pm_periods_that_do : List Str := ["lull", "limit"]
theorem sc_periods_that_do : FnScope nm_periods_that_do pm_periods_that_do (defScope s_periods_that_do) := ⟨rfl, rfl, rfl, by decide +kernel, rfl, by decide +kernel, by decide +kernel⟩

abbrev s_good_periods : Stmt := top 28
abbrev nm_good_periods : List Str := ["lull", "limit", "good", "lows", "highs", "period"]
abbrev pm_good_periods : List Str := ["lull", "limit"]
theorem sc_good_periods : FnScope nm_good_periods pm_good_periods (defScope s_good_periods) := ⟨rfl, rfl, rfl, by decide +kernel, rfl, by decide +kernel, by decide +kernel⟩

abbrev s_fewest_signs : Stmt := top 29
abbrev nm_fewest_signs : List Str := ["lull", "limit", "good"]
abbrev pm_fewest_signs : List Str := ["lull", "limit"]
theorem sc_fewest_signs : FnScope nm_fewest_signs pm_fewest_signs (defScope s_fewest_signs) := ⟨rfl, rfl, rfl, by decide +kernel, rfl, by decide +kernel, by decide +kernel⟩

abbrev s__law_pool : Stmt := top 31
abbrev nm__law_pool : List Str := ["_law_script", "_law_k", "_law_cell", "_law_big", "_law_mixed"]
abbrev pm__law_pool : List Str := ["_law_script", "_law_k"]
theorem sc__law_pool : FnScope nm__law_pool pm__law_pool (defScope s__law_pool) := ⟨rfl, rfl, rfl, by decide +kernel, rfl, by decide +kernel, by decide +kernel⟩

abbrev s__law_take : Stmt := top 32
abbrev nm__law_take : List Str := ["_law_pool_here", "_law_bound", "_law_result"]
abbrev pm__law_take : List Str := ["_law_pool_here", "_law_bound"]
theorem sc__law_take : FnScope nm__law_take pm__law_take (defScope s__law_take) := ⟨rfl, rfl, rfl, by decide +kernel, rfl, by decide +kernel, by decide +kernel⟩

abbrev s__law_one : Stmt := top 33
abbrev nm__law_one : List Str := ["_law_pool_here", "_law_things"]
abbrev pm__law_one : List Str := ["_law_pool_here", "_law_things"]
theorem sc__law_one : FnScope nm__law_one pm__law_one (defScope s__law_one) := ⟨rfl, rfl, rfl, by decide +kernel, rfl, by decide +kernel, by decide +kernel⟩

abbrev s__law_lull : Stmt := top 34
abbrev nm__law_lull : List Str := ["_law_pool_here", "_law_delay"]
abbrev pm__law_lull : List Str := ["_law_pool_here"]
theorem sc__law_lull : FnScope nm__law_lull pm__law_lull (defScope s__law_lull) := ⟨rfl, rfl, rfl, by decide +kernel, rfl, by decide +kernel, by decide +kernel⟩

abbrev s__law_stops : Stmt := top 35
abbrev nm__law_stops : List Str := ["_law_plain", "_law_signs", "_law_delay", "_law_turn", "_law_losses", "_law_quiet", "_law_at"]
abbrev pm__law_stops : List Str := ["_law_plain", "_law_signs"]
theorem sc__law_stops : FnScope nm__law_stops pm__law_stops (defScope s__law_stops) := ⟨rfl, rfl, rfl, by decide +kernel, rfl, by decide +kernel, by decide +kernel⟩

abbrev s__law_gap : Stmt := top 36
abbrev nm__law_gap : List Str := ["_law_plain", "_law_signs", "_law_found", "_law_step", "_law_best", "_law_place"]
abbrev pm__law_gap : List Str := ["_law_plain", "_law_signs"]
theorem sc__law_gap : FnScope nm__law_gap pm__law_gap (defScope s__law_gap) := ⟨rfl, rfl, rfl, by decide +kernel, rfl, by decide +kernel, by decide +kernel⟩

abbrev s__law_told : Stmt := top 37
abbrev nm__law_told : List Str := ["_law_function", "_law_lull_here", "_law_limit", "e"]
abbrev pm__law_told : List Str := ["_law_function", "_law_lull_here", "_law_limit"]
theorem sc__law_told : FnScope nm__law_told pm__law_told (defScope s__law_told) := ⟨rfl, rfl, rfl, by decide +kernel, rfl, by decide +kernel, by decide +kernel⟩

abbrev s__law_spans : Stmt := top 38
abbrev nm__law_spans : List Str := ["_law_good", "_law_found", "_law_period"]
abbrev pm__law_spans : List Str := ["_law_good"]
theorem sc__law_spans : FnScope nm__law_spans pm__law_spans (defScope s__law_spans) := ⟨rfl, rfl, rfl, by decide +kernel, rfl, by decide +kernel, by decide +kernel⟩

abbrev s__law_limit_right : Stmt := top 39
abbrev nm__law_limit_right : List Str := ["_law_plain", "_law_lull_here", "_law_gaps", "_law_limit", "_law_good", "_law_counts", "_law_fewest", "_law_due", "_law_period", "_law_count", "_law_at"]
abbrev pm__law_limit_right : List Str := ["_law_plain", "_law_lull_here", "_law_gaps", "_law_limit"]
theorem sc__law_limit_right : FnScope nm__law_limit_right pm__law_limit_right (defScope s__law_limit_right) := ⟨rfl, rfl, rfl, by decide +kernel, rfl, by decide +kernel, by decide +kernel⟩

abbrev s_law : Stmt := top 40
abbrev nm_law : List Str := ["_law_script", "_law_pool_here", "_law_plain", "_law_lull_here", "_law_gaps", "_law_some", "_law_limit", "_law_odd", "_law_period"]
abbrev pm_law : List Str := ["_law_script"]
theorem sc_law : FnScope nm_law pm_law (defScope s_law) := ⟨rfl, rfl, rfl, by decide +kernel, rfl, by decide +kernel, by decide +kernel⟩

structure Ad where
  (BadNumber WholeError Lull : Addr)
structure Txt (K : PySem.W.Frag) (mg : Str → Option Value) (A : Ad) : Prop where
  n_isinstance : mg "isinstance" = none
  n_int : mg "int" = none
  n_bool : mg "bool" = none
  n_list : mg "list" = none
  n_tuple : mg "tuple" = none
  n_len : mg "len" = none
  n_range : mg "range" = none
  n_zip : mg "zip" = none
  n_max : mg "max" = none
  n_min : mg "min" = none
  g_MOST_DELAY : ∃ t, mg "MOST_DELAY" = some (.int 50 t)
  g_MOST_TURN : ∃ t, mg "MOST_TURN" = some (.int 200 t)
  g_MOST_QUIET : ∃ t, mg "MOST_QUIET" = some (.int 500 t)
  g_MOST_LOST : ∃ t, mg "MOST_LOST" = some (.int 3 t)
  g_MOST_PERIOD : ∃ t, mg "MOST_PERIOD" = some (.int 200 t)
  g_MOST_LIMIT : ∃ t, mg "MOST_LIMIT" = some (.int 20000 t)
  Lull : ClsX K mg "Lull" A.Lull
  c_delay : NoAttr K A.Lull "delay"
  c_turn : NoAttr K A.Lull "turn"
  c_losses : NoAttr K A.Lull "losses"
  c_quiet : NoAttr K A.Lull "quiet"
  BadNumber : XAt K mg "BadNumber" "number" A.BadNumber s_BadNumber_init "BadNumber.__init__"
  x_nn : PySem.W.exmOne K (.ref A.BadNumber) (.ref A.BadNumber) = some true
section
variable {P : Program} {w : World} {K : PySem.W.Frag} {mg : Str → Option Value} {base : Heap} {A : Ad}
theorem ok_xn {f : Addr} {fd : FuncData} (F : Fun K "__init__" "BadNumber.__init__" s_BadNumber_init f fd) (T : Txt K mg A) : FnOk P w K mg base CX0 1 f fd ["self", "number"] (spXI A.BadNumber "number") := by
  refine F.ok sc_BadNumber_init (fun vs H Q E h => ?_) (fun cdv A' outer s H vs Q E hr h => ?_)
  · obtain ⟨a, y, rfl, _⟩ := h
    rfl
  · obtain ⟨a, y, rfl, ha, q⟩ := h
    refine ⟨_, pss_one (ps_ost (pv 0) (pv 1)), ?_⟩
    exact ⟨_, rfl, _, rfl, a, A.BadNumber, rfl, T.BadNumber.ox, T.BadNumber.noA, .inl ⟨ha, fun dx h1 h2 => q dx h1 h2⟩⟩
def spInteger : Sp := fun vs H Q _ => ∃ v k, vs = [v] ∧ KndOf H v k ∧ Q (.bl (k.isInt && !k.isBool)) H
theorem ok_integer {f : Addr} {fd : FuncData} (F : Fun K "is_integer" "is_integer" s_is_integer f fd) (T : Txt K mg A) : FnOk P w K mg base CX0 1 f fd pm_is_integer spInteger := by
  refine F.ok sc_is_integer (fun vs H Q E h => ?_) (fun cdv A' outer s H vs Q E hr h => ?_)
  · obtain ⟨v, k, rfl, _⟩ := h
    rfl
  · obtain ⟨v, k, rfl, hk, q⟩ := h
    refine ⟨_, pss_one (ps_ret (pe_and (pe_callB call_isi (by rfl) T.n_isinstance (by decide +kernel) (pa_cons (pv 0) (pa_cons (pe_bltn (v := .ty "int") (by rfl) T.n_int (by decide +kernel) rfl) pa_nil))) (pe_one (pe_not (pe_callB call_isi (by rfl) T.n_isinstance (by decide +kernel) (pa_cons (pv 0) (pa_cons (pe_bltn (v := .ty "bool") (by rfl) T.n_bool (by decide +kernel) rfl) pa_nil))))))), ?_⟩
    refine ⟨v, rfl, v, .ty "int", .type k.name, .type "int", k.isInt, rfl, .ty _, knd_ty hk, knd_int, _, rfl, ?_⟩
    cases h1 : k.isInt with
    | true =>
      rw [h1] at q
      exact iteT ⟨v, rfl, v, .ty "bool", .type k.name, .type "bool", k.isBool, rfl, .ty _, knd_ty hk, knd_bool, _, rfl, q⟩
    | false =>
      rw [h1] at q
      exact iteF q
def spBetween : Sp := fun vs H Q _ => ∃ v k a b, vs = [v, .int a, .int b] ∧ KndOf H v k ∧ Q (.bl (betw v a b)) H
theorem ok_between {f : Addr} {fd : FuncData} (F : Fun K "is_between" "is_between" s_is_between f fd) (O_is_integer : Own P w K mg base CX0 "is_integer" 1 pm_is_integer spInteger) : FnOk P w K mg base CX0 2 f fd pm_is_between spBetween := by
  refine F.ok sc_is_between (fun vs H Q E h => ?_) (fun cdv A' outer s H vs Q E hr h => ?_)
  · obtain ⟨v, k, a, b, rfl, _⟩ := h
    rfl
  · obtain ⟨v, k, a, b, rfl, hk, q⟩ := h
    refine ⟨_, pss_one (ps_ret (pe_and (pe_own O_is_integer (hr.mono (by decide)) pass0 (pa_cons (pv 0) pa_nil)) (pe_one (pe_chain op_le op_le (pv 1) (pv 0) (pv 2))))), ?_⟩
    refine ⟨v, rfl, v, k, rfl, hk, _, rfl, ?_⟩
    cases h1 : (k.isInt && !k.isBool) with
    | true =>
      cases knd_yes h1
      obtain ⟨n, rfl⟩ := hk
      refine iteT ⟨_, rfl, _, rfl, _, _, rfl, rfl, _, rfl, ?_⟩
      rw [betw_int] at q
      cases h2 : decide (a ≤ n) with
      | true =>
        rw [h2] at q
        exact iteT ⟨_, rfl, _, _, rfl, rfl, q⟩
      | false =>
        rw [h2] at q
        exact iteF q
    | false =>
      rw [betw_not hk h1] at q
      exact iteF q
theorem bw {n a b : Int} (h1 : a ≤ n) (h2 : n ≤ b) : betw (.int n) a b = true := by
  rw [betw_int, decide_eq_true h1, decide_eq_true h2]
  rfl
theorem bt {v : V} {a b : Int} (h : betw v a b = true) : ∃ n, v = .int n ∧ a ≤ n ∧ n ≤ b := by
  cases v <;> first | (exact absurd h Bool.false_ne_true) | skip
  rename_i n
  have h' : (decide (a ≤ n) && decide (n ≤ b)) = true := h
  simp at h'
  exact ⟨n, rfl, h'.1, h'.2⟩
/-! the lull -/
def spCheckLull : Sp := fun vs H Q _ => ∃ d t l : Int, vs = [.int d, .int t, .int l] ∧ 1 ≤ d ∧ d ≤ 50 ∧ 2 * d ≤ t ∧ t ≤ 200 ∧ 1 ≤ l ∧ l ≤ 3 ∧ Q .non H
theorem ok_checkLull {f : Addr} {fd : FuncData} (F : Fun K "check_lull" "check_lull" s_check_lull f fd) (T : Txt K mg A) (O_is_between : Own P w K mg base CX0 "is_between" 2 pm_is_between spBetween) : FnOk P w K mg base CX0 3 f fd pm_check_lull spCheckLull := by
  refine F.ok sc_check_lull (fun vs H Q E h => ?_) (fun cdv A' outer s H vs Q E hr h => ?_)
  · obtain ⟨_, _, _, rfl, _⟩ := h
    rfl
  · obtain ⟨d, t, l, rfl, d1, d2, t1, t2, l1, l2, q⟩ := h
    refine ⟨_, pss_cons (ps_if (pt_not (pt_val (pe_own O_is_between (hr.mono (by decide)) pass0 (pa_cons (pv 1) (pa_cons (pe_op op_mul (pe_int) (pv 0)) (pa_cons (pe_gint T.g_MOST_TURN) pa_nil)))))) (pss_dead) (pss_nil))
      (pss_one (ps_if (pt_not (pt_val (pe_own O_is_between (hr.mono (by decide)) pass0 (pa_cons (pv 2) (pa_cons (pe_int) (pa_cons (pe_gint T.g_MOST_LOST) pa_nil)))))) (pss_dead) (pss_nil))), ?_⟩
    refine ⟨_, rfl, _, rfl, _, _, rfl, rfl, .inl ⟨by decide, by decide⟩, _, .int, _, _, rfl, ⟨_, rfl⟩, _, rfl, ?_⟩
    rw [bw t1 t2]
    refine iteF ⟨_, rfl, _, .int, _, _, rfl, ⟨_, rfl⟩, _, rfl, ?_⟩
    rw [bw l1 l2]
    exact iteF q
def spCheckQuiet : Sp := fun vs H Q _ => ∃ z : Int, vs = [.int z] ∧ 1 ≤ z ∧ z ≤ 500 ∧ Q .non H
theorem ok_checkQuiet {f : Addr} {fd : FuncData} (F : Fun K "check_quiet" "check_quiet" s_check_quiet f fd) (T : Txt K mg A) (O_is_between : Own P w K mg base CX0 "is_between" 2 pm_is_between spBetween) : FnOk P w K mg base CX0 3 f fd pm_check_quiet spCheckQuiet := by
  refine F.ok sc_check_quiet (fun vs H Q E h => ?_) (fun cdv A' outer s H vs Q E hr h => ?_)
  · obtain ⟨_, rfl, _⟩ := h
    rfl
  · obtain ⟨z, rfl, z1, z2, q⟩ := h
    refine ⟨_, pss_one (ps_if (pt_not (pt_val (pe_own O_is_between (hr.mono (by decide)) pass0 (pa_cons (pv 0) (pa_cons (pe_int) (pa_cons (pe_gint T.g_MOST_QUIET) pa_nil)))))) (pss_dead) (pss_nil)), ?_⟩
    refine ⟨_, rfl, _, .int, _, _, rfl, ⟨_, rfl⟩, _, rfl, ?_⟩
    rw [bw z1 z2]
    exact iteF q
def lF (d t l z : Int) : List (Str × V) := [("delay", .int d), ("turn", .int t), ("losses", .int l), ("quiet", .int z)]
def LullAt (A : Ad) (H : Hp) (p : Addr) (d t l z : Int) : Prop := ∃ dx, H p = some (.ins A.Lull dx (lF d t l z))
theorem LullAt.ext {H H' : Hp} {p : Addr} {d t l z : Int} (h : LullAt A H p d t l z) (e : Ext H H') : LullAt A H' p d t l z := by
  obtain ⟨dx, h⟩ := h
  exact ⟨dx, e _ _ h⟩
structure Sizes (d t l z : Int) : Prop where
  d1 : 1 ≤ d
  d2 : d ≤ 50
  t1 : 2 * d ≤ t
  t2 : t ≤ 200
  l1 : 1 ≤ l
  l2 : l ≤ 3
  z1 : 1 ≤ z
  z2 : z ≤ 500
def spLullInit (A : Ad) : Sp := fun vs H Q _ => ∃ (p dx : Addr) (d t l z : Int), vs = [.ref p, .int d, .int t, .int l, .int z] ∧ H p = some (.ins A.Lull dx []) ∧ Sizes d t l z ∧
  ∀ H', LullAt A H' p d t l z → (∀ x u, x ≠ p → H x = some u → H' x = some u) → Q .non H'
theorem ok_lullInit {f : Addr} {fd : FuncData} (F : Fun K "__init__" "Lull.__init__" s_Lull_init f fd) (T : Txt K mg A) (O_is_between : Own P w K mg base CX0 "is_between" 2 pm_is_between spBetween)
    (O_check_lull : Own P w K mg base CX0 "check_lull" 3 pm_check_lull spCheckLull) (O_check_quiet : Own P w K mg base CX0 "check_quiet" 3 pm_check_quiet spCheckQuiet) : FnOk P w K mg base CX0 4 f fd pm_Lull_init (spLullInit A) := by
  refine F.ok sc_Lull_init (fun vs H Q E h => ?_) (fun cdv A' outer s H vs Q E hr h => ?_)
  · obtain ⟨_, _, _, _, _, _, rfl, _⟩ := h
    rfl
  · obtain ⟨p, dx, d, t, l, z, rfl, hp, S, hQ⟩ := h
    refine ⟨_, pss_cons (ps_if (pt_not (pt_val (pe_own O_is_between (hr.mono (by decide)) pass0 (pa_cons (pv 1) (pa_cons (pe_int) (pa_cons (pe_gint T.g_MOST_DELAY) pa_nil)))))) (pss_dead) (pss_nil))
      (pss_cons (ps_expr (pe_own O_check_lull (hr.mono (by decide)) pass0 (pa_cons (pv 1) (pa_cons (pv 2) (pa_cons (pv 3) pa_nil)))))
      (pss_cons (ps_expr (pe_own O_check_quiet (hr.mono (by decide)) pass0 (pa_cons (pv 4) pa_nil)))
      (pss_cons (ps_fld (pv 0) (pv 1) rfl)
      (pss_cons (ps_fld (pv 0) (pv 2) rfl)
      (pss_cons (ps_fld (pv 0) (pv 3) rfl)
      (pss_one (ps_fld (pv 0) (pv 4) rfl))))))), ?_⟩
    refine ⟨_, rfl, _, .int, _, _, rfl, ⟨_, rfl⟩, _, rfl, ?_⟩
    rw [bw S.d1 S.d2]
    refine iteF ⟨_, rfl, _, rfl, _, rfl, d, t, l, rfl, S.d1, S.d2, S.t1, S.t2, S.l1, S.l2, _, rfl, z, rfl, S.z1, S.z2, ?_⟩
    refine ⟨_, rfl, _, rfl, p, A.Lull, dx, [], rfl, hp, T.Lull.cl, T.c_delay, (by show 0 < 1000; decide), ?_⟩
    refine ⟨_, rfl, _, rfl, p, A.Lull, dx, _, rfl, upd_same, T.Lull.cl, T.c_turn, (by show 1 < 1000; decide), ?_⟩
    refine ⟨_, rfl, _, rfl, p, A.Lull, dx, _, rfl, upd_same, T.Lull.cl, T.c_losses, (by show 2 < 1000; decide), ?_⟩
    refine ⟨_, rfl, _, rfl, p, A.Lull, dx, _, rfl, upd_same, T.Lull.cl, T.c_quiet, (by show 3 < 1000; decide), ?_⟩
    refine hQ _ ⟨dx, upd_same.trans (by rfl)⟩ fun x u hx hu => ?_
    rw [upd_ne hx, upd_ne hx, upd_ne hx, upd_ne hx]
    exact hu
end
end K33

set_option Elab.async false
set_option maxRecDepth 100000
set_option maxHeartbeats 4000000
namespace K33
open PySem PySem.Spec PyProof.Rows L2
theorem dvi {a b : Int} : decide (V.int a = V.int b) = decide (a = b) := by
  rw [Bool.eq_iff_iff]
  simp
theorem get_int {S : List Int} {i : Nat} (h : i < S.length) : (S.map V.int)[i]? = some (.int (S.getD i 0)) := by
  rw [List.getElem?_map, List.getD_eq_getElem?_getD, List.getElem?_eq_getElem h]
  rfl
def signB (z : Int) (S : List Int) (i : Nat) : Bool := decide (prev S i + 1 ≤ S.getD i 0) && decide (S.getD i 0 ≤ z - 1)
section
variable {P : Program} {w : World} {K : PySem.W.Frag} {mg : Str → Option Value} {base : Heap} {A : Ad}
def spSign (A : Ad) : Sp := fun vs H Q _ => ∃ (p q : Addr) (d t l z : Int) (S : List Int) (i : Nat), vs = [.ref p, .ref q, .int (i : Int)] ∧ LullAt A H p d t l z ∧ H q = some (.tup (S.map V.int)) ∧ i < S.length ∧ Q (.bl (signB z S i)) H
theorem ok_sign {f : Addr} {fd : FuncData} (F : Fun K "is_sign_behind" "is_sign_behind" s_is_sign_behind f fd) (T : Txt K mg A) (O_is_between : Own P w K mg base CX0 "is_between" 2 pm_is_between spBetween) : FnOk P w K mg base CX0 3 f fd pm_is_sign_behind (spSign A) := by
  refine F.ok sc_is_sign_behind (fun vs H Q E h => ?_) (fun cdv A' outer s H vs Q E hr h => ?_)
  · obtain ⟨_, _, _, _, _, _, _, _, rfl, _⟩ := h
    rfl
  · obtain ⟨p, q, d, t, l, z, S, i, rfl, ⟨dx, hp⟩, hq, hi, k⟩ := h
    refine ⟨_, pss_cons (ps_set (i := 3) sc_is_sign_behind.nd rfl (Or.inl rfl) (pe_ifExp (pt_cmpR op_eq (pv 2) (pe_int) (nomark _)) (pe_int) (pe_op op_add (pe_ix ix_tup (pv 1) (pe_op op_sub (pv 2) (pe_int)) (fun _ _ => rfl)) (pe_int))))
      (pss_one (ps_ret (pe_own O_is_between (hr.mono (by decide)) pass0 (pa_cons (pe_ix ix_tup (pv 1) (pv 2) (fun _ _ => rfl)) (pa_cons (pv 3) (pa_cons (pe_op op_sub (pe_fld (pv 0) rfl) (pe_int)) pa_nil)))))), ?_⟩
    have fin : ∀ a : Int, a = prev S i + 1 → betw (.int (S.getD i 0)) a (z - 1) = signB z S i := fun a h => by
      rw [h, betw_int]
      rfl
    refine ⟨_, rfl, rfl, _, rfl, ?_⟩
    rw [dvi]
    by_cases h0 : i = 0
    · subst h0
      rw [decide_eq_true (by rfl)]
      refine iteT ⟨_, rfl, _, rfl, q, _, _, .int (S.getD 0 0), rfl, rfl, SqT.of hq, atI_nat (get_int hi), _, rfl, _, rfl, p, A.Lull, dx, _, _, rfl, hp, T.Lull.cl, T.c_quiet, rfl, _, _, rfl, rfl, _, .int, _, _, rfl, ⟨_, rfl⟩, ?_⟩
      rw [fin 1 (by unfold prev; rw [if_pos rfl]; rfl)]
      exact k
    · rw [decide_eq_false (by omega)]
      refine iteF ⟨_, rfl, _, rfl, _, _, rfl, rfl, q, _, _, .int (S.getD (i - 1) 0), rfl, rfl, SqT.of hq, (by rw [show (i : Int) - 1 = ((i - 1 : Nat) : Int) by omega]; exact atI_nat (get_int (by omega))), _, _, rfl, rfl, ?_⟩
      refine ⟨_, rfl, _, rfl, q, _, _, .int (S.getD i 0), rfl, rfl, SqT.of hq, atI_nat (get_int hi), _, rfl, _, rfl, p, A.Lull, dx, _, _, rfl, hp, T.Lull.cl, T.c_quiet, rfl, _, _, rfl, rfl, _, .int, _, _, rfl, ⟨_, rfl⟩, ?_⟩
      rw [fin _ (by unfold prev; rw [if_neg h0])]
      exact k
theorem rise_iff {z : Int} {S : List Int} : Rise z S ↔ ∀ i, i < S.length → signB z S i = true := by
  unfold Rise signB
  constructor
  · intro h i hi
    have := h i hi
    rw [decide_eq_true this.1, decide_eq_true this.2]
    rfl
  · intro h i hi
    have := h i hi
    rw [Bool.and_eq_true, decide_eq_true_eq, decide_eq_true_eq] at this
    exact this
def spAre (A : Ad) : Sp := fun vs H Q _ => ∃ (p q : Addr) (d t l z : Int) (S : List Int), vs = [.ref p, .ref q] ∧ LullAt A H p d t l z ∧ H q = some (.tup (S.map V.int)) ∧ S.length ≤ 1000 ∧ ((Rise z S → Q (.bl true) H) ∧ (¬ Rise z S → Q (.bl false) H))
theorem ok_are {f : Addr} {fd : FuncData} (F : Fun K "are_signs" "are_signs" s_are_signs f fd) (T : Txt K mg A) (O_is_sign_behind : Own P w K mg base CX0 "is_sign_behind" 3 pm_is_sign_behind (spSign A)) : FnOk P w K mg base CX0 4 f fd pm_are_signs (spAre A) := by
  refine F.ok sc_are_signs (fun vs H Q E h => ?_) (fun cdv A' outer s H vs Q E hr h => ?_)
  · obtain ⟨_, _, _, _, _, _, _, rfl, _⟩ := h
    rfl
  · obtain ⟨p, q, d, t, l, z, S, rfl, hp, hq, hl, k1, k2⟩ := h
    refine ⟨_, pss_cons (ps_if (pt_not (pt_val (pe_callB call_isi (by rfl) T.n_isinstance (by decide +kernel) (pa_cons (pv 1) (pa_cons (pe_bltn (v := .ty "tuple") (by rfl) T.n_tuple (by decide +kernel) rfl) pa_nil))))) (pss_one (ps_ret (pe_bl))) (pss_nil))
      (pss_cons (ps_for PassesOwn.never rfl (pi_range1 rfl T.n_range (pa_cons (pe_callB call_len_seq (by rfl) T.n_len (by decide +kernel) (pa_cons (pv 1) pa_nil)) pa_nil)) (pg_name (i := 2) sc_are_signs.nd rfl (Or.inl rfl)) (pss_one (ps_if (pt_not (pt_val (pe_own O_is_sign_behind (hr.mono (by decide)) pass0 (pa_cons (pv 0) (pa_cons (pv 1) (pa_cons (pv 2) pa_nil)))))) (pss_one (ps_ret (pe_bl))) (pss_nil))))
      (pss_one (ps_ret (pe_bl)))), ?_⟩
    refine ⟨_, rfl, _, .ty "tuple", .type "tuple", .type "tuple", true, rfl, .ty _, .base (.tup hq), knd_tup (k := .tuple), _, rfl, iteF ?_⟩
    refine ⟨_, rfl, q, _, rfl, .inr (SqT.of hq), _, rfl, by omega, by rw [List.length_map]; omega, ?_⟩
    refine for_range (fun i σ' H' => H' = H ∧ (∃ o, σ' = [some (.ref p), some (.ref q), o]) ∧ ∀ j, j < i → signB z S j = true) ⟨rfl, ⟨_, rfl⟩, fun j hj => absurd hj (Nat.not_lt_zero _)⟩ (fun i σ' H' hi pv => ?_) (fun σ' H' pv => ?_)
    · obtain ⟨rfl, ⟨o, rfl⟩, hb⟩ := pv
      rw [List.length_map, Int.toNat_natCast] at hi
      refine ⟨_, rfl, _, rfl, _, rfl, p, q, d, t, l, z, S, i, (by rw [Int.zero_add]; rfl), hp, hq, hi, _, rfl, ?_⟩
      cases h1 : signB z S i with
      | true =>
        refine iteF ⟨rfl, ⟨_, rfl⟩, fun j hj => ?_⟩
        by_cases e : j < i
        · exact hb j e
        · rw [show j = i by omega]
          exact h1
      | false =>
        refine iteT (k2 fun hr => ?_)
        rw [rise_iff.mp hr i hi] at h1
        cases h1
    · obtain ⟨rfl, _, hb⟩ := pv
      rw [List.length_map, Int.toNat_natCast] at hb
      exact k1 (rise_iff.mpr hb)
end
end K33

set_option Elab.async false
set_option maxRecDepth 100000
set_option maxHeartbeats 4000000
namespace K33
open PySem PySem.Spec PyProof.Rows L2
def stL (d t z : Int) (L : Nat) (S : List Int) : List Int := (-2 * d) :: (S ++ (List.range (L + 1)).map fun (i : Nat) => z + (i : Int) * t)
theorem stL_len {d t z : Int} {L : Nat} {S : List Int} : (stL d t z L S).length = S.length + L + 2 := by
  simp [stL]
  omega
theorem stL_get {d t z : Int} {L : Nat} {S : List Int} {i : Nat} (h : i < S.length + L + 2) : (stL d t z L S).getD i 0 = st d t z S i := by
  unfold st stL
  by_cases h0 : i = 0
  · subst h0
    rw [if_pos rfl]
    rfl
  · rw [if_neg h0]
    obtain ⟨j, rfl⟩ : ∃ j, i = j + 1 := ⟨i - 1, by omega⟩
    rw [List.getD_cons_succ, List.getD_eq_getElem?_getD]
    by_cases h1 : j + 1 ≤ S.length
    · rw [if_pos h1, List.getElem?_append_left (by omega), Nat.add_sub_cancel, List.getD_eq_getElem?_getD]
    · rw [if_neg h1, List.getElem?_append_right (by omega), List.getElem?_map, List.getElem?_range (by omega), show j + 1 - S.length - 1 = j - S.length by omega]
      rfl
/-- the greatest difference of two that stand k places apart -/
def IsW (tl : List Int) (k : Nat) (m : Int) : Prop := (∃ i, i + k < tl.length ∧ tl.getD (i + k) 0 - tl.getD i 0 = m) ∧ ∀ i, i + k < tl.length → tl.getD (i + k) 0 - tl.getD i 0 ≤ m
/-- m is the quiet gap -/
def Gap (d t : Int) (L : Nat) (z : Int) (S : List Int) (m : Int) : Prop := (∃ i, i ≤ S.length ∧ st d t z S (i + (L + 1)) - st d t z S i = m) ∧ ∀ i, i ≤ S.length → st d t z S (i + (L + 1)) - st d t z S i ≤ m
theorem isW_gap {d t z m : Int} {L : Nat} {S : List Int} : IsW (stL d t z L S) (L + 1) m ↔ Gap d t L z S m := by
  unfold IsW Gap
  rw [stL_len]
  constructor
  · rintro ⟨⟨i, hi, h1⟩, h2⟩
    refine ⟨⟨i, by omega, ?_⟩, fun j hj => ?_⟩
    · rw [stL_get hi, stL_get (by omega)] at h1
      exact h1
    · have := h2 j (by omega)
      rw [stL_get (by omega), stL_get (by omega)] at this
      exact this
  · rintro ⟨⟨i, hi, h1⟩, h2⟩
    refine ⟨⟨i, by omega, ?_⟩, fun j hj => ?_⟩
    · rw [stL_get (by omega), stL_get (by omega)]
      exact h1
    · rw [stL_get (by omega), stL_get (by omega)]
      exact h2 j (by omega)
theorem gap_do {d t z m lim : Int} {L : Nat} {S : List Int} (h : Gap d t L z S m) : Do d t L z S lim ↔ m ≤ lim := by
  obtain ⟨⟨i, hi, h1⟩, h2⟩ := h
  constructor
  · intro hd
    have := hd i hi
    omega
  · intro hm j hj
    have := h2 j hj
    omega
theorem gap_one {d t z m m' : Int} {L : Nat} {S : List Int} (h : Gap d t L z S m) (h' : Gap d t L z S m') : m = m' := by
  obtain ⟨⟨i, hi, h1⟩, h2⟩ := h
  obtain ⟨⟨j, hj, h3⟩, h4⟩ := h'
  have := h2 j hj
  have := h4 i hi
  omega
section
variable {P : Program} {w : World} {K : PySem.W.Frag} {mg : Str → Option Value} {base : Heap} {A : Ad}
def spStopsOf (K : PySem.W.Frag) (A : Ad) : Sp := fun vs H Q _ => ∃ (p q : Addr) (d t : Int) (L : Nat) (z : Int) (S : List Int), vs = [.ref p, .ref q] ∧ LullAt A H p d t (L : Int) z ∧ (SqT K H q (S.map V.int) ∨ SqL K H q (S.map V.int)) ∧ L ≤ 3 ∧ S.length ≤ 1000 ∧ 0 ≤ t ∧ t ≤ 200 ∧
  ∀ r H', Ext H H' → H' r = some (.tup ((stL d t z L S).map V.int)) → Q (.ref r) H'
theorem ok_stopsOf {f : Addr} {fd : FuncData} (F : Fun K "stops_of" "stops_of" s_stops_of f fd) (T : Txt K mg A) : FnOk P w K mg base CX0 1 f fd pm_stops_of (spStopsOf K A) := by
  refine F.ok sc_stops_of (fun vs H Q E h => ?_) (fun cdv A' outer s H vs Q E hr h => ?_)
  · obtain ⟨_, _, _, _, _, _, _, rfl, _⟩ := h
    rfl
  · obtain ⟨p, q, d, t, L, z, S, rfl, ⟨dx, hp⟩, hq, hL, hS, t0, t2, k⟩ := h
    refine ⟨_, pss_cons (ps_setLc (i := 2) (te := tOp (rI0 fun i j => .int (i + j)) (tFld K (tVar 0) "quiet") (tOp (rI CMul fun i j => .int (i * j)) (tVar 3) (tFld K (tVar 0) "turn"))) (own := [("lost", 3)]) (g := gName 3) (by rfl) sc_stops_of.nd rfl rfl (sw_true rfl rfl rfl (by decide +kernel)) (pi_range1 rfl T.n_range (pa_cons (pe_op op_add (pe_fld (pv 0) rfl) (pe_int)) pa_nil)) (blkOk_by (own := [("lost", 3)]) (N := nm_stops_of) (sc := defScope s_stops_of) (by decide +kernel)) (fun _ _ _ _ _ => pg_name (i := 3) sc_stops_of.nd rfl (Or.inl rfl)) (fun s1 H1 C1 cl fp => pts_nil) (fun s1 H1 C1 cl fp => pe_op op_add (pe_fldK (K := K) rfl (pv 0) rfl) (pe_op op_mul (pv 3) (pe_fldK (K := K) rfl (pv 0) rfl))))
      (pss_one (ps_ret (pe_tup (pa_cons (pe_op op_mul (pe_un un_neg (pe_int)) (pe_fld (pv 0) rfl)) (StX.pa_star (pv 1) (StX.pa_star (pv 2) (pa_nil))))))), ?_⟩
    refine ⟨_, rfl, p, A.Lull, dx, _, _, rfl, hp, T.Lull.cl, T.c_losses, rfl, _, _, rfl, rfl, _, rfl, by omega, by omega, lc_rgR (b := fun _ => true) (f := fun i => .int (z + (i : Int) * t)) (by show _ < 16777216; omega) (fun x => rfl) (fun i hi H' e' Q' q' => q' _ Ext.rfl') (fun i hi _ H' e' Q' q' => ?_) (fun D H1 hD e1 hl => ?_)⟩
    · have hp' := e' _ _ hp
      refine ⟨_, rfl, p, A.Lull, dx, _, _, rfl, hp', T.Lull.cl, T.c_quiet, rfl, _, rfl, _, rfl, p, A.Lull, dx, _, _, rfl, hp', T.Lull.cl, T.c_turn, rfl, _, _, rfl, rfl, .inr ⟨by omega, by omega⟩, _, _, rfl, rfl, ?_⟩
      rw [Int.zero_add]
      exact q' _ Ext.rfl'
    · rw [L2.filter_all] at hl
      have hp' := e1 _ _ hp
      have hq' : SqT K H1 q (S.map V.int) ∨ SqL K H1 q (S.map V.int) := hq.imp (fun h => h.ext e1) (fun h => h.ext e1)
      refine ⟨_, rfl, _, rfl, p, A.Lull, dx, _, _, rfl, hp', T.Lull.cl, T.c_delay, rfl, _, _, rfl, rfl, .inl ⟨by decide, by decide⟩, _, rfl, q, _, rfl, hq', _, rfl, D, _, rfl, .inr (SqL.of hl), ?_, fun r hr => ?_⟩
      · simp
        show _ ≤ 16777216
        omega
      · refine k r _ (e1.trans (Ext.upd hr)) ?_
        rw [upd_same]
        congr 2
        rw [show ((L : Int) + 1).toNat = L + 1 by omega]
        simp [stL]
end
end K33

set_option Elab.async false
set_option maxRecDepth 100000
set_option maxHeartbeats 4000000
namespace K33
open PySem PySem.Spec PyProof.Rows L2
theorem small_sz {n : Nat} (h : n ≤ 2000) : n < sizeLine := by show n < 16777216; omega
theorem cut_from {S : List Int} {k : Nat} (h : k ≤ S.length) : cutV (S.map V.int) (some (k : Int)) none = (S.drop k).map V.int := by
  unfold cutV
  rw [show HT.sIx (S.map V.int).length (S.map V.int).length none = (S.map V.int).length from rfl, HT.sIx_nat, Nat.min_eq_left (by rw [List.length_map]; exact h), ← List.map_drop, List.take_of_length_le (by simp)]
section
variable {P : Program} {w : World} {K : PySem.W.Frag} {mg : Str → Option Value} {base : Heap} {A : Ad}
def spWidest (A : Ad) : Sp := fun vs H Q _ => ∃ (p q : Addr) (d t : Int) (L : Nat) (z : Int) (tl : List Int), vs = [.ref p, .ref q] ∧ LullAt A H p d t (L : Int) z ∧ H q = some (.tup (tl.map V.int)) ∧ L ≤ 3 ∧ L + 1 < tl.length ∧ tl.length ≤ 1100 ∧
  ∀ m H', Ext H H' → IsW tl (L + 1) m → Q (.int m) H'
theorem ok_widest {f : Addr} {fd : FuncData} (F : Fun K "widest" "widest" s_widest f fd) (T : Txt K mg A) : FnOk P w K mg base CX0 1 f fd pm_widest (spWidest A) := by
  refine F.ok sc_widest (fun vs H Q E h => ?_) (fun cdv A' outer s H vs Q E hr h => ?_)
  · obtain ⟨_, _, _, _, _, _, _, rfl, _⟩ := h
    rfl
  · obtain ⟨p, q, d, t, L, z, tl, rfl, ⟨dx, hp⟩, hq, hL, h1, h2, k⟩ := h
    refine ⟨_, pss_cons (ps_set (i := 2) sc_widest.nd rfl (Or.inl rfl) (pe_slice sl_tupE (pv 1) (po_some (pe_op op_add (pe_fld (pv 0) rfl) (pe_int))) po_none))
      (pss_one (ps_ret (pe_callB (cr_max rfl) (by rfl) T.n_max (by decide +kernel) (pa_cons (pe_lc (own := [("sooner", 3), ("later", 4)]) (g := gTup K 2 (gCons (gName 3) (gCons (gName 4) (gNil)))) (by rfl) sc_widest.nd (RZ.pi_zipA (by rfl) T.n_zip (pa_cons (pv 1) (pa_cons (pv 2) pa_nil))) (blkOk_by (own := [("sooner", 3), ("later", 4)]) (N := nm_widest) (sc := defScope s_widest) (by decide +kernel)) (fun _ _ _ _ _ => pg_tup rfl (pgs_cons (pg_name (i := 3) sc_widest.nd rfl (Or.inl rfl)) (pgs_cons (pg_name (i := 4) sc_widest.nd rfl (Or.inl rfl)) (pgs_nil)))) (fun s1 H1 C1 cl fp => pts_nil) (fun s1 H1 C1 cl fp => pe_callTy call_int1 (by rfl) T.n_int (by decide +kernel) (pa_cons (pe_op op_sub (pv 4) (pv 3)) pa_nil))) pa_nil)))), ?_⟩
    refine ⟨_, rfl, _, rfl, p, A.Lull, dx, _, _, rfl, hp, T.Lull.cl, T.c_losses, rfl, _, _, rfl, rfl, _, rfl, q, _, rfl, hq, fun r H1 e1 hr1 => ?_⟩
    have hq1 := e1 _ _ hq
    rw [show ((L : Int) + 1) = ((L + 1 : Nat) : Int) by omega, cut_from (by omega)] at hr1
    have hx : ∀ i x y, i < tl.length - (L + 1) → (tl.map V.int)[i]? = some x → ((tl.drop (L + 1)).map V.int)[i]? = some y → x = .int (tl.getD i 0) ∧ y = .int (tl.getD (i + (L + 1)) 0) := fun i x y hi a b => by
      rw [get_int (by omega)] at a
      rw [List.getElem?_map, List.getElem?_drop, Nat.add_comm, ← List.getElem?_map, get_int (by omega)] at b
      cases a
      cases b
      exact ⟨rfl, rfl⟩
    refine ⟨_, rfl, _, rfl, q, r, _, _, rfl, .inr ⟨SqT.of hq1, SqT.of hr1, lc_zipR (n := tl.length - (L + 1)) (b := fun _ => true) (f := fun i => .int (tl.getD (i + (L + 1)) 0 - tl.getD i 0)) (SqT.of hq1) (SqT.of hr1) (by rw [List.length_map, List.length_map, List.length_drop]; omega) (small_sz (by omega)) (fun x y => rfl) (fun i x y hi a b H' e' Q' q' => q' _ Ext.rfl') (fun i x y hi a b _ H' e' Q' q' => ?_) (fun D H2 hD e2 hl => ?_)⟩⟩
    · obtain ⟨rfl, rfl⟩ := hx i x y hi a b
      exact ⟨_, rfl, _, rfl, _, _, rfl, rfl, .inl ⟨_, rfl, q' _ Ext.rfl'⟩⟩
    · rw [L2.filter_all] at hl
      refine ⟨D, (List.range (tl.length - (L + 1))).map fun i => tl.getD (i + (L + 1)) 0 - tl.getD i 0, rfl, SqL.of (by rw [hl, List.map_map]; rfl), by rw [List.length_map, List.length_range]; omega, fun m hm hmax => k m _ (e1.trans e2) ⟨?_, fun i hi => hmax _ (List.mem_map.mpr ⟨i, List.mem_range.mpr (by omega), rfl⟩)⟩⟩
      obtain ⟨i, hi, rfl⟩ := List.mem_map.mp hm
      have := List.mem_range.mp hi
      exact ⟨i, by omega, rfl⟩
/-! signs that do -/
def spDo (A : Ad) : Sp := fun vs H Q _ => ∃ (p q : Addr) (lim d t : Int) (L : Nat) (z : Int) (S : List Int), vs = [.ref p, .int lim, .ref q] ∧ LullAt A H p d t (L : Int) z ∧ Sizes d t L z ∧ H q = some (.tup (S.map V.int)) ∧ S.length ≤ 1000 ∧
  (Rise z S ∧ Do d t L z S lim → ∀ H', Ext H H' → Q (.bl true) H') ∧ (¬ (Rise z S ∧ Do d t L z S lim) → ∀ H', Ext H H' → Q (.bl false) H')
theorem ok_do {f : Addr} {fd : FuncData} (F : Fun K "signs_do" "signs_do" s_signs_do f fd) (T : Txt K mg A) (O_are_signs : Own P w K mg base CX0 "are_signs" 4 pm_are_signs (spAre A)) (O_stops_of : Own P w K mg base CX0 "stops_of" 1 pm_stops_of (spStopsOf K A)) (O_widest : Own P w K mg base CX0 "widest" 1 pm_widest (spWidest A)) : FnOk P w K mg base CX0 5 f fd pm_signs_do (spDo A) := by
  refine F.ok sc_signs_do (fun vs H Q E h => ?_) (fun cdv A' outer s H vs Q E hr h => ?_)
  · obtain ⟨_, _, _, _, _, _, _, _, rfl, _⟩ := h
    rfl
  · obtain ⟨p, q, lim, d, t, L, z, S, rfl, hp, Z, hq, hS, k1, k2⟩ := h
    refine ⟨_, pss_one (ps_ret (pe_and (pe_own O_are_signs (hr.mono (by decide)) pass0 (pa_cons (pv 0) (pa_cons (pv 2) pa_nil))) (pe_one (pe_cmpR op_le (pe_own O_widest (hr.mono (by decide)) pass0 (pa_cons (pv 0) (pa_cons (pe_own O_stops_of (hr.mono (by decide)) pass0 (pa_cons (pv 0) (pa_cons (pv 2) pa_nil))) pa_nil))) (pv 1) (nomark _))))), ?_⟩
    have hL : L ≤ 3 := by have := Z.l2; omega
    refine ⟨_, rfl, _, rfl, p, q, d, t, _, z, S, rfl, hp, hq, hS, fun hr => ⟨_, rfl, iteT ?_⟩, fun hr => ⟨_, rfl, iteF (k2 (fun h => hr h.1) _ Ext.rfl')⟩⟩
    refine ⟨_, rfl, _, rfl, _, rfl, p, q, d, t, L, z, S, rfl, hp, .inl (SqT.of hq), hL, hS, by have := Z.t1; have := Z.d1; omega, Z.t2, fun r H1 e1 hr1 => ?_⟩
    refine ⟨p, r, d, t, L, z, _, rfl, hp.ext e1, hr1, hL, by rw [stL_len]; omega, by rw [stL_len]; omega, fun m H2 e2 hw => ⟨_, rfl, _, _, rfl, rfl, ?_⟩⟩
    have hg := gap_do (lim := lim) (isW_gap.mp hw)
    show Q (.bl (decide (m ≤ lim))) H2
    by_cases hm : m ≤ lim
    · rw [decide_eq_true hm]
      exact k1 ⟨hr, hg.mpr hm⟩ _ (e1.trans e2)
    · rw [decide_eq_false hm]
      exact k2 (fun h => hm (hg.mp h.2)) _ (e1.trans e2)
end
end K33

set_option Elab.async false
set_option maxRecDepth 100000
set_option maxHeartbeats 4000000
namespace K33
open PySem PySem.Spec PyProof.Rows L2
section
variable {P : Program} {w : World} {K : PySem.W.Frag} {mg : Str → Option Value} {base : Heap} {A : Ad}
def spLimit (A : Ad) : Sp := fun vs H Q E => ∃ v k, vs = [v] ∧ KndOf H v k ∧ (betw v 1 20000 = true → Q .non H) ∧ (betw v 1 20000 = false → ∀ e, H e = none → E (.ref A.BadNumber) (some e) (upd H e (.xd [("number", v)])))
theorem ok_limit {f : Addr} {fd : FuncData} (F : Fun K "check_limit" "check_limit" s_check_limit f fd) (T : Txt K mg A) (O_is_between : Own P w K mg base CX0 "is_between" 2 pm_is_between spBetween)
    (X_BadNumber : XCls P w K mg base "BadNumber" "number" A.BadNumber) : FnOk P w K mg base (L2.CX P w) 4 f fd pm_check_limit (spLimit A) := by
  refine F.okX sc_check_limit (fun vs H Q E h => ?_) (fun cdv A' outer s H vs Q E hr h => ?_)
  · obtain ⟨_, _, rfl, _⟩ := h
    rfl
  · obtain ⟨v, k, rfl, hk, h1, h2⟩ := h
    refine ⟨_, pss_one (ps_if (pt_not (pt_val (pe_own O_is_between (hr.mono (by decide)) pass0 (pa_cons (pv 0) (pa_cons (pe_int) (pa_cons (pe_gint T.g_MOST_LIMIT) pa_nil)))))) (pss_one (ps_raise rfl (takes_of rfl rfl rfl rfl) (pmk_X X_BadNumber (hr.mono (by decide)) (pv 0) rfl))) (pss_nil)), ?_⟩
    refine ⟨v, rfl, v, k, 1, 20000, rfl, hk, _, rfl, ?_⟩
    cases hb : betw v 1 20000 with
    | true => exact iteF (h1 hb)
    | false => exact iteT ⟨_, rfl, mkX_fin fun e he => h2 hb e he⟩
end
end K33

set_option Elab.async false
set_option maxRecDepth 100000
set_option maxHeartbeats 4000000
namespace K33
open PySem PySem.Spec PyProof.Rows L2
/-! ### what is drawn by -/
def PoolD (H : Hp) (st : Addr) : Prop := ∃ a b : Int, H st = some (.lst [.int a, .int b]) ∧ 0 ≤ b ∧ b < 2147483647
def ExtM (st : Addr) (H H' : Hp) : Prop := ∀ x o, x ≠ st → H x = some o → H' x = some o
theorem ExtM.rfl' {st : Addr} {H : Hp} : ExtM st H H := fun _ _ _ h => h
theorem ExtM.trans {st : Addr} {H H1 H2 : Hp} (a : ExtM st H H1) (c : ExtM st H1 H2) : ExtM st H H2 := fun x o h e => c x o h (a x o h e)
theorem Ext.m {st : Addr} {H H' : Hp} (h : Ext H H') : ExtM st H H' := fun x o _ e => h x o e
theorem PoolD.ext {st : Addr} {H H' : Hp} (h : PoolD H st) (e : Ext H H') : PoolD H' st := by
  obtain ⟨a, b, hs, h⟩ := h
  exact ⟨a, b, e _ _ hs, h⟩
theorem PoolD.new {st l : Addr} {H : Hp} (h : PoolD H st) (hl : H l = none) : l ≠ st := by
  obtain ⟨a, b, hs, _⟩ := h
  exact (ne_of_none hs hl).symm
theorem ExtM.none {st t : Addr} {H H' : Hp} (e : ExtM st H H') (h1 : t ≠ st) (h : H' t = none) : H t = none := by
  cases z : H t with
  | none => rfl
  | some o =>
    rw [e t o h1 z] at h
    cases h
theorem mut1 {st : Addr} (o : HO) (H1 : Hp) : ExtM st H1 (upd H1 st o) := fun x u hx h => by
  rw [upd_ne hx]
  exact h
section
variable {P : Program} {w : World} {K : PySem.W.Frag} {mg : Str → Option Value} {base : Heap} {A : Ad}
def spPool (K : PySem.W.Frag) : Sp := fun vs H Q _ => ∃ (sc : Addr) (ns : List Int) (k : Nat), vs = [.ref sc, .int (k : Int)] ∧ SqL K H sc (ns.map V.int) ∧ ns.length ≤ 63 ∧ k ≤ 100 ∧ ∀ st H', Ext H H' → H st = none → PoolD H' st → Q (.ref st) H'
theorem ok_pool {f : Addr} {fd : FuncData} (F : Fun K "_law_pool" "_law_pool" s__law_pool f fd) (T : Txt K mg A) : FnOk P w K mg base CX0 1 f fd pm__law_pool (spPool K) := by
  refine F.ok sc__law_pool (fun vs H Q E h => ?_) (fun cdv A' outer s H vs Q E hr h => ?_)
  · obtain ⟨_, _, _, rfl, _⟩ := h
    rfl
  · obtain ⟨sc, ns, k, rfl, hs, hl, hk, q⟩ := h
    refine ⟨_, pss_cons (ps_set (i := 2) sc__law_pool.nd rfl (Or.inl rfl) (pe_int))
      (Evl.pss_cut (ps_if (pt_cmpR op_lt (pv 1) (pe_callB call_len_seq (by rfl) T.n_len (by decide +kernel) (pa_cons (pv 0) pa_nil)) (nomark _)) (pss_one (ps_set (i := 2) sc__law_pool.nd rfl (Or.inl rfl) (pe_ix ix_list (pv 0) (pv 1) (fun _ _ => rfl)))) (pss_nil))
      (pss_cons (ps_set (i := 3) sc__law_pool.nd rfl (Or.inl rfl) (pe_callB (call_max2 rfl) (by rfl) T.n_max (by decide +kernel) (pa_cons (pe_callTy call_int1 (by rfl) T.n_int (by decide +kernel) (pa_cons (pv 2) pa_nil)) (pa_cons (pe_callTy call_int1 (by rfl) T.n_int (by decide +kernel) (pa_cons (pe_op op_sub (pe_un un_neg (pe_int)) (pv 2)) pa_nil)) pa_nil))))
      (pss_cons (ps_set (i := 4) sc__law_pool.nd rfl (Or.inl rfl) (pe_op op_mod (pe_callTy call_int1 (by rfl) T.n_int (by decide +kernel) (pa_cons (pe_op op_mul (pe_op op_add (pe_op op_add (pe_op op_add (pe_op op_mod (pe_callTy call_int1 (by rfl) T.n_int (by decide +kernel) (pa_cons (pv 3) pa_nil)) (pe_int)) (pe_op op_mul (pe_op op_mul (pe_int) (pv 1)) (pv 1))) (pe_op op_mul (pe_int) (pv 1))) (pe_int)) (pe_int)) pa_nil)) (pe_int)))
      (pss_one (ps_ret (pe_lst (pa_cons (pe_op op_mul (pv 3) (pe_callTy call_int1 (by rfl) T.n_int (by decide +kernel) (pa_cons (pe_cmpR op_ge (pv 3) (pe_op op_pow (pe_int) (pe_int)) (nomark _)) pa_nil))) (pa_cons (pv 4) pa_nil)))))))), ?_⟩
    refine ⟨fun σ H' => ∃ c : Int, σ = [some (.ref sc), some (.int (k : Int)), some (.int c), Option.none, Option.none] ∧ H' = H, ?_, ?_⟩
    · refine ⟨_, rfl, _, rfl, sc, _, rfl, .inl hs, _, _, rfl, rfl, _, rfl, ?_⟩
      rw [List.length_map]
      by_cases hkl : (k : Int) < (ns.length : Int)
      · rw [decide_eq_true hkl]
        refine iteT ⟨_, rfl, _, rfl, sc, _, _, .int (ns.getD k 0), rfl, rfl, hs, atI_nat (get_int (by omega)), _, rfl, rfl⟩
      · rw [decide_eq_false hkl]
        exact iteF ⟨_, rfl, rfl⟩
    · rintro σ H' ⟨c, rfl, rfl⟩
      refine ⟨_, rfl, .inl ⟨_, rfl, _, rfl, _, rfl, _, _, rfl, rfl, .inl ⟨_, rfl, _, _, rfl, ?_⟩⟩⟩
      dsimp only
      generalize (if -1 - c > c then -1 - c else c) = big
      refine ⟨_, rfl, .inl ⟨_, rfl, _, _, rfl, rfl, (show (0 : Int) < 2147483629 by decide), _, rfl, _, _, rfl, rfl, .inl ⟨by decide, by decide⟩, _, rfl, _, _, rfl, rfl, .inl ⟨by omega, by omega⟩, _, _, rfl, rfl, _, rfl, _, _, rfl, rfl, .inl ⟨by decide, by decide⟩, _, _, rfl, rfl, _, _, rfl, rfl, _, _, rfl, rfl, .inr ⟨by decide, by decide⟩, .inl ⟨_, rfl, _, _, rfl, rfl, (show (0 : Int) < 2147483647 by decide), ?_⟩⟩⟩
      refine ⟨_, rfl, _, rfl, _, _, rfl, rfl, ⟨by decide, by decide, by decide⟩, _, _, rfl, rfl, .inr ⟨_, rfl, _, _, rfl, rfl, .inr ?_, _, rfl, by show 2 ≤ sizeLine; decide, fun st hst => ?_⟩⟩
      · split <;> decide
      · exact q st _ (Ext.upd hst) hst ⟨_, _, upd_same, Int.emod_nonneg _ (by decide), Int.emod_lt_of_pos _ (by decide)⟩
def spTake : Sp := fun vs H Q _ => ∃ (st : Addr) (B : Int), vs = [.ref st, .int B] ∧ PoolD H st ∧ 1 ≤ B ∧ B ≤ 100000 ∧ ∀ n H', 0 ≤ n → n < B → PoolD H' st → ExtM st H H' → Q (.int n) H'
theorem ok_take {f : Addr} {fd : FuncData} (F : Fun K "_law_take" "_law_take" s__law_take f fd) (T : Txt K mg A) : FnOk P w K mg base CX0 1 f fd pm__law_take spTake := by
  refine F.ok sc__law_take (fun vs H Q E h => ?_) (fun cdv A' outer s H vs Q E hr h => ?_)
  · obtain ⟨_, _, rfl, _⟩ := h
    rfl
  · obtain ⟨st, B, rfl, ⟨a, b, hst, b0, b1⟩, hB, hB2, k⟩ := h
    refine ⟨_, pss_cons (ps_if (pt_cmpR op_gt (pe_ix ix_list (pv 0) (pe_int) (fun _ _ => rfl)) (pe_int) (nomark _)) (pss_cons (ps_set (i := 2) sc__law_take.nd rfl (Or.inl rfl) (pe_op op_modN (pe_callTy call_int1 (by rfl) T.n_int (by decide +kernel) (pa_cons (pe_ix ix_list (pv 0) (pe_int) (fun _ _ => rfl)) pa_nil)) (pv 1)))
      (pss_cons (ps_asg (pe_op op_fdivN (pe_ix ix_list (pv 0) (pe_int) (fun _ _ => rfl)) (pv 1)) (pg_sub (pv 0) (pe_int) set_list))
      (pss_one (ps_ret (pv 2))))) (pss_nil))
      (pss_cons (ps_asg (pe_op op_mod (pe_callTy call_int1 (by rfl) T.n_int (by decide +kernel) (pa_cons (pe_op op_add (pe_op op_mul (pe_ix ix_list (pv 0) (pe_int) (fun _ _ => rfl)) (pe_int)) (pe_int)) pa_nil)) (pe_int)) (pg_sub (pv 0) (pe_int) set_list))
      (pss_one (ps_ret (pe_op op_modN (pe_callTy call_int1 (by rfl) T.n_int (by decide +kernel) (pa_cons (pe_op op_fdiv (pe_op op_mod (pe_callTy call_int1 (by rfl) T.n_int (by decide +kernel) (pa_cons (pe_op op_mul (pe_ix ix_list (pv 0) (pe_int) (fun _ _ => rfl)) (pe_ix ix_list (pv 0) (pe_int) (fun _ _ => rfl))) pa_nil)) (pe_int)) (pe_int)) pa_nil)) (pv 1))))), ?_⟩
    refine ⟨_, rfl, st, _, 0, .int a, rfl, rfl, SqL.of hst, rfl, _, _, rfl, rfl, _, rfl, ?_⟩
    by_cases ha : a > 0
    · rw [decide_eq_true ha]
      refine iteT ⟨_, rfl, st, _, 0, .int a, rfl, rfl, SqL.of hst, rfl, .inl ⟨_, rfl, _, rfl, _, _, rfl, rfl, (by show B ≠ 0; omega), ?_⟩⟩
      refine ⟨_, rfl, st, _, 0, .int a, rfl, rfl, SqL.of hst, rfl, _, rfl, _, _, rfl, rfl, ⟨by omega, by omega⟩, _, rfl, st, _, 0, 0, rfl, rfl, hst, rfl, ?_⟩
      exact ⟨_, rfl, k _ _ (Int.fmod_nonneg_of_pos _ (by omega)) (Int.fmod_lt_of_pos _ (by omega)) ⟨_, _, upd_same, b0, b1⟩ (mut1 _ _)⟩
    · rw [decide_eq_false ha]
      refine iteF ?_
      refine ⟨_, rfl, st, _, 1, .int b, rfl, rfl, SqL.of hst, rfl, _, _, rfl, rfl, .inr ⟨by decide, by decide⟩, _, _, rfl, rfl, .inl ⟨_, rfl, _, _, rfl, rfl, (show (0 : Int) < 2147483647 by decide), ?_⟩⟩
      refine ⟨_, rfl, st, _, 1, 1, rfl, rfl, hst, rfl, ?_⟩
      have c0 : 0 ≤ (b * 39373 + 7) % 2147483647 := Int.emod_nonneg _ (by decide)
      have c1 : (b * 39373 + 7) % 2147483647 < 2147483647 := Int.emod_lt_of_pos _ (by decide)
      generalize hz : (b * 39373 + 7) % 2147483647 = c at c0 c1
      have hs1 : upd H st (.lst ([V.int a, .int b].set 1 (.int ((b * 39373 + 7) % 2147483647)))) st = some (.lst [.int a, .int c]) := by rw [hz, upd_same]; rfl
      have x1 : ExtM st H (upd H st (.lst ([V.int a, .int b].set 1 (.int ((b * 39373 + 7) % 2147483647))))) := mut1 _ _
      generalize upd H st (.lst ([V.int a, .int b].set 1 (.int ((b * 39373 + 7) % 2147483647)))) = H1 at hs1 x1 ⊢
      refine ⟨_, rfl, st, _, 1, .int c, rfl, rfl, SqL.of hs1, rfl, _, rfl, st, _, 1, .int c, rfl, rfl, SqL.of hs1, rfl, _, _, rfl, rfl, .inl ⟨by omega, by omega⟩, .inl ⟨_, rfl, _, _, rfl, rfl, (show (0 : Int) < 2147483629 by decide), ?_⟩⟩
      refine ⟨_, _, rfl, rfl, ⟨by decide, by decide⟩, .inl ⟨_, rfl, _, rfl, _, _, rfl, rfl, (by show B ≠ 0; omega), ?_⟩⟩
      exact k _ _ (Int.fmod_nonneg_of_pos _ (by omega)) (Int.fmod_lt_of_pos _ (by omega)) ⟨_, _, hs1, c0, c1⟩ x1
def spOne : Sp := fun vs H Q _ => ∃ (st l : Addr) (xs : List V), vs = [.ref st, .ref l] ∧ PoolD H st ∧ H l = some (.lst xs) ∧ l ≠ st ∧ 1 ≤ xs.length ∧ xs.length ≤ 1000 ∧ ∀ (i : Nat) (v : V) H', xs[i]? = some v → PoolD H' st → ExtM st H H' → Q v H'
theorem ok_one {f : Addr} {fd : FuncData} (F : Fun K "_law_one" "_law_one" s__law_one f fd) (T : Txt K mg A) (O__law_take : Own P w K mg base CX0 "_law_take" 1 pm__law_take spTake) : FnOk P w K mg base CX0 2 f fd pm__law_one spOne := by
  refine F.ok sc__law_one (fun vs H Q E h => ?_) (fun cdv A' outer s H vs Q E hr h => ?_)
  · obtain ⟨_, _, _, rfl, _⟩ := h
    rfl
  · obtain ⟨st, l, xs, rfl, hst, hl, hne, h1, h2, k⟩ := h
    refine ⟨_, pss_one (ps_ret (pe_ix ix_list (pv 1) (pe_own O__law_take (hr.mono (by decide)) pass0 (pa_cons (pv 0) (pa_cons (pe_callB call_len_seq (by rfl) T.n_len (by decide +kernel) (pa_cons (pv 1) pa_nil)) pa_nil))) (fun _ _ => rfl))), ?_⟩
    refine ⟨_, rfl, _, rfl, _, rfl, l, xs, rfl, .inl (SqL.of hl), st, _, rfl, hst, by omega, by omega, fun n H1 n0 n1 st1 x1 => ?_⟩
    obtain ⟨i, rfl⟩ : ∃ i : Nat, n = (i : Int) := ⟨n.toNat, by omega⟩
    obtain ⟨v, hv⟩ : ∃ v, xs[i]? = some v := ⟨_, List.getElem?_eq_getElem (by omega)⟩
    exact ⟨l, xs, _, v, rfl, rfl, SqL.of (x1 l _ hne hl), atI_nat hv, k i v H1 hv st1 x1⟩
end
end K33

set_option Elab.async false
set_option maxRecDepth 100000
set_option maxHeartbeats 4000000
namespace K33
open PySem PySem.Spec PyProof.Rows L2
def PlainAt (H : Hp) (p : Addr) (d t l z : Int) : Prop := H p = some (.lst [.int d, .int t, .int l, .int z])
section
variable {P : Program} {w : World} {K : PySem.W.Frag} {mg : Str → Option Value} {base : Heap} {A : Ad}
def spLawStops (K : PySem.W.Frag) : Sp := fun vs H Q _ => ∃ (pl q : Addr) (d t : Int) (L : Nat) (z : Int) (S : List Int), vs = [.ref pl, .ref q] ∧ PlainAt H pl d t (L : Int) z ∧ Sizes d t L z ∧ (SqL K H q (S.map V.int) ∨ SqT K H q (S.map V.int)) ∧ S.length ≤ 1000 ∧
  ∀ r H', Ext H H' → H' r = some (.lst ((stL d t z L S).map V.int)) → Q (.ref r) H'
theorem ok_lawStops {f : Addr} {fd : FuncData} (F : Fun K "_law_stops" "_law_stops" s__law_stops f fd) (T : Txt K mg A) : FnOk P w K mg base CX0 1 f fd pm__law_stops (spLawStops K) := by
  refine F.ok sc__law_stops (fun vs H Q E h => ?_) (fun cdv A' outer s H vs Q E hr h => ?_)
  · obtain ⟨_, _, _, _, _, _, _, rfl, _⟩ := h
    rfl
  · obtain ⟨pl, q, d, t, L, z, S, rfl, hpl, Z, hq, hS, k⟩ := h
    refine ⟨_, pss_cons (ps_asg (pv 0) (pg_unl rfl (pgs_cons (pg_name (i := 2) sc__law_stops.nd rfl (Or.inl rfl)) (pgs_cons (pg_name (i := 3) sc__law_stops.nd rfl (Or.inr rfl)) (pgs_cons (pg_name (i := 4) sc__law_stops.nd rfl (Or.inl rfl)) (pgs_cons (pg_name (i := 5) sc__law_stops.nd rfl (Or.inr rfl)) (pgs_nil)))))))
      (pss_one (ps_ret (pe_op op_cat (pe_op op_cat (pe_lst (pa_cons (pe_op op_mul (pe_un un_neg (pe_int)) (pv 2)) pa_nil)) (pe_callTy call_list_of (by rfl) T.n_list (by decide +kernel) (pa_cons (pv 1) pa_nil))) (pe_lc (own := [("_law_at", 6)]) (g := gName 6) (by rfl) sc__law_stops.nd (pi_range1 rfl T.n_range (pa_cons (pe_op op_add (pv 4) (pe_int)) pa_nil)) (blkOk_by (own := [("_law_at", 6)]) (N := nm__law_stops) (sc := defScope s__law_stops) (by decide +kernel)) (fun _ _ _ _ _ => pg_name (i := 6) sc__law_stops.nd rfl (Or.inl rfl)) (fun s1 H1 C1 cl fp => pts_nil) (fun s1 H1 C1 cl fp => pe_op op_add (pv 5) (pe_op op_mul (pv 6) (pv 3))))))), ?_⟩
    have hL : L ≤ 3 := by have := Z.l2; omega
    have ht : 0 ≤ t ∧ t ≤ 200 := ⟨by have := Z.t1; have := Z.d1; omega, Z.t2⟩
    refine ⟨_, rfl, pl, _, rfl, SqL.of hpl, rfl, _, _, rfl, _, _, rfl, _, _, rfl, _, _, rfl, rfl, ?_⟩
    refine ⟨_, rfl, _, rfl, _, _, rfl, rfl, .inl ⟨by decide, by decide⟩, by show 1 ≤ sizeLine; decide, fun a ha => ?_⟩
    have e1 := Ext.upd (o := .lst [.int (-2 * d)]) ha
    refine ⟨_, rfl, q, _, rfl, hq.imp (fun h => h.ext e1) (fun h => h.ext e1), fun b hb => ?_⟩
    have e2 := Ext.upd (o := .lst (S.map V.int)) hb
    refine ⟨a, b, _, _, rfl, rfl, e2 _ _ upd_same, upd_same, Nat.le_trans (show [V.int (-2 * d)].length + (S.map V.int).length ≤ 1001 by rw [List.length_map]; show 1 + S.length ≤ 1001; omega) (by decide), fun c hc => ?_⟩
    have e3 := Ext.upd (o := .lst ([V.int (-2 * d)] ++ S.map V.int)) hc
    have e03 := (e1.trans e2).trans e3
    refine ⟨_, rfl, _, _, rfl, rfl, _, rfl, by omega, by omega, lc_rgR (b := fun _ => true) (f := fun i => .int (z + (i : Int) * t)) (by show _ < 16777216; omega) (fun x => rfl) (fun i hi H' e' Q' q' => q' _ Ext.rfl') (fun i hi _ H' e' Q' q' => ?_) (fun D H4 hD e4 hl => ?_)⟩
    · refine ⟨_, rfl, _, rfl, _, rfl, _, _, rfl, rfl, .inr ⟨by omega, by omega⟩, _, _, rfl, rfl, ?_⟩
      rw [Int.zero_add]
      exact q' _ Ext.rfl'
    · rw [L2.filter_all, show ((L : Int) + 1).toNat = L + 1 by omega] at hl
      refine ⟨c, D, _, _, rfl, rfl, e4 _ _ upd_same, hl, Nat.le_trans (show _ ≤ 1100 by simp; omega) (by decide), fun r hr => k r _ ((e03.trans e4).trans (Ext.upd hr)) ?_⟩
      rw [upd_same]
      congr 2
      simp [stL]
def spLawGap (K : PySem.W.Frag) : Sp := fun vs H Q _ => ∃ (pl q : Addr) (d t : Int) (L : Nat) (z : Int) (S : List Int), vs = [.ref pl, .ref q] ∧ PlainAt H pl d t (L : Int) z ∧ Sizes d t L z ∧ (SqL K H q (S.map V.int) ∨ SqT K H q (S.map V.int)) ∧ S.length ≤ 1000 ∧
  ∀ m H', Ext H H' → Gap d t L z S m → Q (.int m) H'
theorem ok_lawGap {f : Addr} {fd : FuncData} (F : Fun K "_law_gap" "_law_gap" s__law_gap f fd) (T : Txt K mg A) (O__law_stops : Own P w K mg base CX0 "_law_stops" 1 pm__law_stops (spLawStops K)) : FnOk P w K mg base CX0 2 f fd pm__law_gap (spLawGap K) := by
  refine F.ok sc__law_gap (fun vs H Q E h => ?_) (fun cdv A' outer s H vs Q E hr h => ?_)
  · obtain ⟨_, _, _, _, _, _, _, rfl, _⟩ := h
    rfl
  · obtain ⟨pl, q, d, t, L, z, S, rfl, hpl, Z, hq, hS, k⟩ := h
    refine ⟨_, pss_cons (ps_par (i := 2) (j := 3) (by rfl) sc__law_gap.nd rfl rfl (by decide) rfl rfl (pa_cons (pe_own O__law_stops (hr.mono (by decide)) pass0 (pa_cons (pv 0) (pa_cons (pv 1) pa_nil))) (pa_cons (pe_op op_add (pe_ix ix_list (pv 0) (pe_int) (fun _ _ => rfl)) (pe_int)) pa_nil)) (by rfl))
      (pss_cons (ps_set (i := 4) sc__law_gap.nd rfl (Or.inl rfl) (pe_op op_sub (pe_ix ix_list (pv 2) (pv 3) (fun _ _ => rfl)) (pe_ix ix_list (pv 2) (pe_int) (fun _ _ => rfl))))
      (pss_cons (ps_for PassesOwn.never rfl (pi_range1 rfl T.n_range (pa_cons (pe_op op_add (pe_callB call_len_seq (by rfl) T.n_len (by decide +kernel) (pa_cons (pv 1) pa_nil)) (pe_int)) pa_nil)) (pg_name (i := 5) sc__law_gap.nd rfl (Or.inl rfl)) (pss_one (ps_set (i := 4) sc__law_gap.nd rfl (Or.inl rfl) (pe_callB (call_max2 rfl) (by rfl) T.n_max (by decide +kernel) (pa_cons (pe_callTy call_int1 (by rfl) T.n_int (by decide +kernel) (pa_cons (pv 4) pa_nil)) (pa_cons (pe_callTy call_int1 (by rfl) T.n_int (by decide +kernel) (pa_cons (pe_op op_sub (pe_ix ix_list (pv 2) (pe_op op_add (pv 5) (pv 3)) (fun _ _ => rfl)) (pe_ix ix_list (pv 2) (pv 5) (fun _ _ => rfl))) pa_nil)) pa_nil))))))
      (pss_one (ps_ret (pv 4))))), ?_⟩
    have hlen : (stL d t z L S).length = S.length + L + 2 := stL_len
    refine ⟨_, rfl, _, rfl, pl, q, d, t, L, z, S, rfl, hpl, Z, hq, hS, fun r H1 e1 hr1 => ?_⟩
    refine ⟨_, rfl, pl, _, 2, .int (L : Int), rfl, rfl, SqL.of (e1 _ _ hpl), rfl, _, _, rfl, rfl, _, _, rfl, ?_⟩
    have hr2 := hr1
    have e12 := e1
    have at_ : ∀ (j : Nat) (y : Int), y = (j : Int) → j < S.length + L + 2 → atI ((stL d t z L S).map V.int) y = some (.int (st d t z S j)) := fun j y hy hj => by
      rw [hy, ← stL_get hj]
      exact atI_nat (get_int (by omega))
    refine ⟨_, rfl, _, rfl, r, _, _, .int (st d t z S (L + 1)), rfl, rfl, SqL.of hr2, at_ (L + 1) _ (by omega) (by omega), _, rfl, r, _, 0, .int (st d t z S 0), rfl, rfl, SqL.of hr2, at_ 0 _ rfl (by omega), _, _, rfl, rfl, ?_⟩
    have hq2 : SqL K H1 q (S.map V.int) ∨ SqT K H1 q (S.map V.int) := hq.imp (fun h => h.ext e12) (fun h => h.ext e12)
    refine ⟨_, rfl, q, _, rfl, hq2, _, _, rfl, rfl, _, rfl, by omega, by rw [List.length_map]; omega, ?_⟩
    rw [List.length_map, show ((S.length : Int) + 1).toNat = S.length + 1 by omega]
    refine for_range (fun i σ' H' => H' = H1 ∧ ∃ (o5 : Option V) (b : Int), σ' = [some (.ref pl), some (.ref q), some (.ref r), some (.int ((L : Int) + 1)), some (.int b), o5] ∧ (∃ j, j ≤ S.length ∧ st d t z S (j + (L + 1)) - st d t z S j = b) ∧ ∀ j, j < i → st d t z S (j + (L + 1)) - st d t z S j ≤ b) ⟨rfl, _, _, rfl, ⟨0, by omega, by rw [Nat.zero_add]⟩, fun j hj => absurd hj (Nat.not_lt_zero _)⟩ (fun i σ' H' hi pv => ?_) (fun σ' H' pv => ?_)
    · obtain ⟨rfl, o5, b, rfl, ⟨j, hj, hb⟩, hall⟩ := pv
      refine ⟨_, rfl, .inl ⟨_, rfl, _, rfl, _, rfl, _, rfl, _, _, rfl, rfl, r, _, _, .int (st d t z S (i + (L + 1))), rfl, rfl, SqL.of hr2, at_ (i + (L + 1)) _ (by omega) (by omega), _, rfl, _, rfl, r, _, _, .int (st d t z S i), rfl, rfl, SqL.of hr2, at_ i _ (by omega) (by omega), _, _, rfl, rfl, .inl ⟨_, rfl, _, _, rfl, ?_⟩⟩⟩
      refine ⟨rfl, _, _, rfl, ?_, fun j' hj' => ?_⟩
      · split
        · exact ⟨i, by omega, rfl⟩
        · exact ⟨j, hj, hb⟩
      · by_cases e : j' < i
        · have := hall j' e
          split <;> omega
        · rw [show j' = i by omega]
          split <;> omega
    · obtain ⟨rfl, o5, b, rfl, ⟨j, hj, hb⟩, hall⟩ := pv
      exact ⟨_, rfl, k b _ e12 ⟨⟨j, hj, hb⟩, fun j' hj' => hall j' (by omega)⟩⟩
end
end K33

set_option Elab.async false
set_option maxRecDepth 100000
set_option maxHeartbeats 4000000
namespace K33
open PySem PySem.Spec PyProof.Rows L2
/-- tuples of ints, one by one -/
def TAll (H : Hp) : List V → List (List Int) → Prop
  | [], [] => True
  | v :: vs, S :: SS => (∃ a, v = .ref a ∧ H a = some (.tup (S.map V.int))) ∧ TAll H vs SS
  | _, _ => False
theorem TAll.ext {H H' : Hp} (e : Ext H H') : ∀ {vs : List V} {SS : List (List Int)}, TAll H vs SS → TAll H' vs SS
  | [], [], _ => trivial
  | _ :: _, _ :: _, ⟨⟨a, h1, h2⟩, h⟩ => ⟨⟨a, h1, e _ _ h2⟩, TAll.ext e h⟩
theorem TAll.len {H : Hp} : ∀ {vs : List V} {SS : List (List Int)}, TAll H vs SS → vs.length = SS.length
  | [], [], _ => rfl
  | _ :: _, _ :: _, ⟨_, h⟩ => congrArg (· + 1) (TAll.len h)
theorem TAll.app {H : Hp} : ∀ {vs ws : List V} {SS TT : List (List Int)}, TAll H vs SS → TAll H ws TT → TAll H (vs ++ ws) (SS ++ TT)
  | [], _, [], _, _, h => h
  | _ :: _, _, _ :: _, _, ⟨h1, h⟩, h2 => ⟨h1, TAll.app h h2⟩
theorem TAll.get {H : Hp} : ∀ {vs : List V} {SS : List (List Int)} {i : Nat} {v : V}, TAll H vs SS → vs[i]? = some v → ∃ a S, v = .ref a ∧ H a = some (.tup (S.map V.int)) ∧ SS[i]? = some S
  | _ :: _, S :: _, 0, _, ⟨⟨a, h1, h2⟩, _⟩, h => by
    cases h
    exact ⟨a, S, h1, h2, rfl⟩
  | _ :: vs, _ :: SS, i + 1, v, ⟨_, h1⟩, h => TAll.get (i := i) h1 (by simpa using h)
theorem TAll.one {H : Hp} {a : Addr} {S : List Int} (h : H a = some (.tup (S.map V.int))) : TAll H [.ref a] [S] := ⟨⟨a, rfl, h⟩, trivial⟩
theorem TAll.updL {H : Hp} {D : Addr} {acc : List V} {o : HO} (hD : H D = some (.lst acc)) : ∀ {vs : List V} {SS : List (List Int)}, TAll H vs SS → TAll (upd H D o) vs SS
  | [], [], _ => trivial
  | _ :: _, _ :: _, ⟨⟨a, h1, h2⟩, h⟩ => ⟨⟨a, h1, by rw [upd_ne (fun z => by rw [z, hD] at h2; cases h2)]; exact h2⟩, TAll.updL hD h⟩
def tsD (SS : List (List Int)) : List PyData := SS.map fun S => .tuple ((S.map V.int).map pd)
theorem TAll.dp {K : PySem.W.Frag} {H : Hp} : ∀ {vs : List V} {SS : List (List Int)}, TAll H vs SS → DpAll K H vs (tsD SS)
  | [], [], _ => .nil
  | _ :: _, _ :: _, ⟨⟨a, h1, h2⟩, h⟩ => .cons (by rw [h1]; exact .tup (SqT.of h2) (dp_all fl_ints)) (TAll.dp h)
theorem tsD_lay : ∀ (SS : List (List Int)), PyData.canLayAll0 (tsD SS) = true ∧ PyData.depthAll (tsD SS) ≤ 1
  | [] => ⟨rfl, Nat.zero_le _⟩
  | S :: SS => by
    obtain ⟨a1, b1⟩ := lay_all (vs := S.map V.int) fl_ints
    obtain ⟨a2, b2⟩ := tsD_lay SS
    refine ⟨?_, ?_⟩
    · show (PyData.canLayAll0 ((S.map V.int).map pd) && PyData.canLayAll0 (tsD SS)) = true
      rw [a1, a2]
      rfl
    · show max (PyData.depthAll ((S.map V.int).map pd) + 1) (PyData.depthAll (tsD SS)) ≤ 1
      rw [b1]
      omega
theorem tsD_shp (SS : List (List Int)) : SeqAt.shaped (.list (tsD SS)) = true := by
  obtain ⟨a, b⟩ := tsD_lay SS
  show (PyData.canLayAll0 (tsD SS) && decide (PyData.depthAll (tsD SS) + 1 ≤ 64)) = true
  rw [a, decide_eq_true (by omega)]
  rfl
theorem max_ex (f : Nat → Int) : ∀ n : Nat, ∃ m, (∃ i, i ≤ n ∧ f i = m) ∧ ∀ i, i ≤ n → f i ≤ m
  | 0 => ⟨f 0, ⟨0, Nat.le_refl _, rfl⟩, fun i hi => by rw [show i = 0 by omega]; exact Int.le_refl _⟩
  | n + 1 => by
    obtain ⟨m, ⟨i, hi, h1⟩, h2⟩ := max_ex f n
    by_cases e : f (n + 1) ≤ m
    · refine ⟨m, ⟨i, by omega, h1⟩, fun j hj => ?_⟩
      by_cases e' : j ≤ n
      · exact h2 j e'
      · rw [show j = n + 1 by omega]
        exact e
    · refine ⟨f (n + 1), ⟨n + 1, Nat.le_refl _, rfl⟩, fun j hj => ?_⟩
      by_cases e' : j ≤ n
      · have := h2 j e'
        omega
      · rw [show j = n + 1 by omega]
        exact Int.le_refl _
theorem gap_ex (d t : Int) (L : Nat) (z : Int) (S : List Int) : ∃ m, Gap d t L z S m := max_ex (fun i => st d t z S (i + (L + 1)) - st d t z S i) S.length
noncomputable def gapV (d t : Int) (L : Nat) (z : Int) (S : List Int) : Int := Classical.choose (gap_ex d t L z S)
theorem gapV_ok {d t : Int} {L : Nat} {z : Int} {S : List Int} : Gap d t L z S (gapV d t L z S) := Classical.choose_spec (gap_ex d t L z S)
noncomputable def gB (d t : Int) (L : Nat) (z lim : Int) (i : Nat) : Bool := decide (gapV d t L z (sgn z (1 + (i : Int))) ≤ lim)
noncomputable def GL (d t : Int) (L : Nat) (z lim : Int) : List Int := ((List.range 200).filter (gB d t L z lim)).map fun (i : Nat) => 1 + (i : Int)
theorem GL_asc {d t : Int} {L : Nat} {z lim : Int} : Asc (GL d t L z lim) := by
  unfold Asc GL
  rw [List.pairwise_map]
  refine (List.Pairwise.filter _ (List.pairwise_lt_range (n := 200))).imp fun {a b} h => ?_
  omega
theorem GL_mem {d t : Int} {L : Nat} {z lim p : Int} (h : p ∈ GL d t L z lim) : 1 ≤ p ∧ p ≤ 200 := by
  obtain ⟨i, hi, rfl⟩ := List.mem_map.mp h
  have := List.mem_range.mp (List.mem_filter.mp hi).1
  omega
theorem GL_len {d t : Int} {L : Nat} {z lim : Int} : (GL d t L z lim).length ≤ 200 := by
  unfold GL
  rw [List.length_map]
  exact Nat.le_trans (List.length_filter_le _ _) (by rw [List.length_range]; exact Nat.le_refl _)
theorem rg_sgn {z p : Int} (h1 : 1 ≤ p) (h2 : p ≤ 200) (z1 : 1 ≤ z) (z2 : z ≤ 500) : RgC p z p ((z - 1) / p).toNat := by
  have hsz : Builtin.Range.rangeSize p z p = (((z - 1) / p).toNat : Int) := by
    unfold Builtin.Range.rangeSize
    rw [if_pos (by omega)]
    by_cases h : p < z
    · rw [if_pos h]
      have e := Int.add_mul_ediv_right (z - p - 1) 1 (show p ≠ 0 by omega)
      rw [show z - p - 1 + 1 * p = z - 1 by omega] at e
      have e2 : 0 ≤ (z - 1) / p := Int.ediv_nonneg (by omega) (by omega)
      omega
    · rw [if_neg h, Int.ediv_eq_zero_of_lt (by omega) (by omega)]
      rfl
  have hle : (z - 1) / p ≤ z - 1 := Int.ediv_le_self _ (by omega)
  have h0 : 0 ≤ (z - 1) / p := Int.ediv_nonneg (by omega) (by omega)
  refine ⟨by omega, by omega, ?_, hsz⟩
  unfold Builtin.Range.small
  rw [hsz]
  have f : ∀ x : Int, -1000 ≤ x → x ≤ 1000 → Builtin.Range.rangeFitsLong x = true := fun x a b => by
    unfold Builtin.Range.rangeFitsLong
    simp
    omega
  rw [f p (by omega) (by omega), f z (by omega) (by omega), f _ (by omega) (by omega), if_pos (by omega), f _ (by omega) (by omega)]
  simp
theorem rgC_sgn {z p : Int} : rgC p p ((z - 1) / p).toNat = (sgn z p).map V.int := by
  unfold rgC sgn
  rw [List.map_map]
  rfl
theorem sgn_short {z p : Int} (h1 : 1 ≤ p) (z1 : 1 ≤ z) (z2 : z ≤ 500) : (sgn z p).length ≤ 500 := by
  rw [sgn_len]
  have hle : (z - 1) / p ≤ z - 1 := Int.ediv_le_self _ (by omega)
  omega
section
variable {P : Program} {w : World} {K : PySem.W.Frag} {mg : Str → Option Value} {base : Heap} {A : Ad}
def spEach (A : Ad) : Sp := fun vs H Q _ => ∃ (p : Addr) (per d t l z : Int), vs = [.ref p, .int per] ∧ LullAt A H p d t l z ∧ Sizes d t l z ∧ 1 ≤ per ∧ per ≤ 200 ∧ ∀ q H', Ext H H' → H' q = some (.tup ((sgn z per).map V.int)) → Q (.ref q) H'
theorem ok_each {f : Addr} {fd : FuncData} (F : Fun K "signs_each" "signs_each" s_signs_each f fd) (T : Txt K mg A) : FnOk P w K mg base CX0 1 f fd pm_signs_each (spEach A) := by
  refine F.ok sc_signs_each (fun vs H Q E h => ?_) (fun cdv A' outer s H vs Q E hr h => ?_)
  · obtain ⟨_, _, _, _, _, _, rfl, _⟩ := h
    rfl
  · obtain ⟨p, per, d, t, l, z, rfl, ⟨dx, hp⟩, Z, h1, h2, k⟩ := h
    refine ⟨_, pss_one (ps_ret (pe_tupRg3 rfl (by rfl) T.n_tuple (prg_3 (by rfl) T.n_range (pa_cons (pv 1) (pa_cons (pe_fld (pv 0) rfl) (pa_cons (pv 1) pa_nil)))))), ?_⟩
    have hz1 := Z.z1
    have hz2 := Z.z2
    refine ⟨_, rfl, _, rfl, p, A.Lull, dx, _, _, rfl, hp, T.Lull.cl, T.c_quiet, rfl, _, rfl, per, z, per, rfl, by omega, ⟨by omega, by omega, by omega, by omega, by omega⟩, _, rg_sgn h1 h2 hz1 hz2, ?_, fun q hq => ?_⟩
    · rw [← sgn_len]
      exact Nat.le_trans (sgn_short h1 hz1 hz2) (by decide)
    · rw [rgC_sgn]
      exact k q _ (Ext.upd hq) upd_same
def spGood (A : Ad) : Sp := fun vs H Q _ => ∃ (p : Addr) (lim d t : Int) (L : Nat) (z : Int), vs = [.ref p, .int lim] ∧ LullAt A H p d t (L : Int) z ∧ Sizes d t L z ∧ ∀ q H', Ext H H' → H' q = some (.lst ((GL d t L z lim).map V.int)) → Q (.ref q) H'
theorem ok_good {f : Addr} {fd : FuncData} (F : Fun K "periods_that_do" "periods_that_do" s_periods_that_do f fd) (T : Txt K mg A) (O_signs_each : Own P w K mg base CX0 "signs_each" 1 pm_signs_each (spEach A)) (O_signs_do : Own P w K mg base CX0 "signs_do" 5 pm_signs_do (spDo A)) : FnOk P w K mg base CX0 6 f fd pm_periods_that_do (spGood A) := by
  refine F.ok sc_periods_that_do (fun vs H Q E h => ?_) (fun cdv A' outer s H vs Q E hr h => ?_)
  · obtain ⟨_, _, _, _, _, _, rfl, _⟩ := h
    rfl
  · obtain ⟨p, lim, d, t, L, z, rfl, hp, Z, k⟩ := h
    refine ⟨_, pss_one (ps_ret (pe_lc (own := [("period", 2)]) (g := gName 2) (by rfl) sc_periods_that_do.nd (pi_range2 rfl T.n_range (pa_cons (pe_int) (pa_cons (pe_op op_add (pe_gint T.g_MOST_PERIOD) (pe_int)) pa_nil))) (blkOk_by (own := [("period", 2)]) (N := nm_periods_that_do) (sc := defScope s_periods_that_do) (by decide +kernel)) (fun _ _ _ _ _ => pg_name (i := 2) sc_periods_that_do.nd rfl (Or.inl rfl)) (fun s1 H1 C1 cl fp => pts_one (pt_val (pe_own O_signs_do (hr.mono (by decide)) pass0 (pa_cons (pv 0) (pa_cons (pv 1) (pa_cons (pe_own O_signs_each (hr.mono (by decide)) pass0 (pa_cons (pv 0) (pa_cons (pv 2) pa_nil))) pa_nil)))))) (fun s1 H1 C1 cl fp => pv 2))), ?_⟩
    have hz1 := Z.z1
    have hz2 := Z.z2
    refine ⟨_, _, rfl, rfl, 1, 201, rfl, ⟨by decide, by decide, by decide, by decide⟩, lc_rgR (n := 200) (b := gB d t L z lim) (f := fun i => .int (1 + (i : Int))) (small_sz (by omega)) (fun x => rfl) (fun i hi H' e' Q' q' => ?_) (fun i hi _ H' e' Q' q' => ⟨_, rfl, q' _ Ext.rfl'⟩) (fun D H1 hD e1 hl => ?_)⟩
    · refine ⟨_, rfl, _, rfl, _, rfl, _, rfl, p, _, d, t, _, z, rfl, hp.ext e', Z, by omega, by omega, fun q H2 e2 hq => ?_⟩
      have hb : gB d t L z lim i = true ↔ Do d t L z (sgn z (1 + (i : Int))) lim := by
        unfold gB
        rw [decide_eq_true_eq]
        exact (gap_do gapV_ok).symm
      refine ⟨p, q, lim, d, t, L, z, _, rfl, (hp.ext e').ext e2, Z, hq, Nat.le_trans (sgn_short (by omega) hz1 hz2) (by decide), fun h H3 e3 => ⟨_, rfl, ?_⟩, fun h H3 e3 => ⟨_, rfl, ?_⟩⟩
      · have := q' H3 (e2.trans e3)
        rw [hb.mpr h.2] at this
        exact this
      · have := q' H3 (e2.trans e3)
        rw [Bool.eq_false_iff.mpr fun e => h ⟨sgn_rise (by omega) hz1, hb.mp e⟩] at this
        exact this
    · refine k D _ e1 ?_
      rw [hl]
      unfold GL
      rw [List.map_map]
      rfl
end
end K33

set_option Elab.async false
set_option maxRecDepth 100000
set_option maxHeartbeats 4000000
namespace K33
open PySem PySem.Spec PyProof.Rows L2
theorem TAll.of {H : Hp} : ∀ {vs : List V} {SS : List (List Int)}, vs.length = SS.length → (∀ (i : Nat) (v : V), vs[i]? = some v → ∃ a S, v = .ref a ∧ H a = some (.tup (S.map V.int)) ∧ SS[i]? = some S) → TAll H vs SS
  | [], [], _, _ => trivial
  | v :: vs, S :: SS, hl, h => by
    obtain ⟨a, S', h1, h2, h3⟩ := h 0 v rfl
    cases h3
    exact ⟨⟨a, h1, h2⟩, TAll.of (by simpa using hl) fun i v hv => h (i + 1) v (by simpa using hv)⟩
def pairL (F : List (Int × Int)) : List (List Int) := F.map fun q => [q.1, q.2]
def sideB (f : Int → Bool) : V → Bool | .int p => f p | _ => false
theorem side_filter (f : Int → Bool) : ∀ ns : List Int, (ns.map V.int).filter (sideB f) = (ns.filter f).map V.int
  | [] => rfl
  | n :: ns => by
    rw [List.map_cons, List.filter_cons, List.filter_cons, side_filter f ns]
    show (if f n = true then _ else _) = _
    split <;> rfl
section
variable {P : Program} {w : World} {K : PySem.W.Frag} {mg : Str → Option Value} {base : Heap} {A : Ad}
def spGoodPeriods (A : Ad) : Sp := fun vs H Q E => ∃ (p : Addr) (v : V) (k : Knd) (d t : Int) (L : Nat) (z : Int), vs = [.ref p, v] ∧ KndOf H v k ∧ LullAt A H p d t (L : Int) z ∧ Sizes d t L z ∧
  (betw v 1 20000 = false → ∀ e, H e = none → E (.ref A.BadNumber) (some e) (upd H e (.xd [("number", v)]))) ∧
  (∀ lim, v = .int lim → 1 ≤ lim → lim ≤ 20000 → ∀ q ws H', Ext H H' → H' q = some (.lst ws) → TAll H' ws (pairL (spans (GL d t L z lim))) → Q (.ref q) H')
theorem ok_goodPeriods {f : Addr} {fd : FuncData} (F : Fun K "good_periods" "good_periods" s_good_periods f fd) (T : Txt K mg A) (O_check_limit : Own P w K mg base (L2.CX P w) "check_limit" 4 pm_check_limit (spLimit A))
    (O_periods_that_do : Own P w K mg base CX0 "periods_that_do" 6 pm_periods_that_do (spGood A)) : FnOk P w K mg base (L2.CX P w) 7 f fd pm_good_periods (spGoodPeriods A) := by
  refine F.okX sc_good_periods (fun vs H Q E h => ?_) (fun cdv A' outer s H vs Q E hr h => ?_)
  · obtain ⟨_, _, _, _, _, _, _, rfl, _⟩ := h
    rfl
  · obtain ⟨p, v, k, d, t, L, z, rfl, hk, hp, Z, hE, hQ⟩ := h
    refine ⟨_, pss_cons (ps_expr (pe_ownS O_check_limit (hr.mono (by decide)) (takes_of rfl rfl rfl rfl) (pa_cons (pv 1) pa_nil)))
      (pss_cons (ps_set (i := 2) sc_good_periods.nd rfl (Or.inr rfl) (pe_own O_periods_that_do (hr.mono (by decide)) pass0 (pa_cons (pv 0) (pa_cons (pv 1) pa_nil))))
      (pss_cons (ps_setLc (i := 3) (own := [("period", 5)]) (g := gName 5) (by rfl) sc_good_periods.nd rfl rfl (sw_true rfl rfl rfl (by decide +kernel)) (pi_sq (pv 2)) (blkOk_by (own := [("period", 5)]) (N := nm_good_periods) (sc := defScope s_good_periods) (by decide +kernel)) (fun _ _ _ _ _ => pg_name (i := 5) sc_good_periods.nd rfl (Or.inl rfl)) (fun s1 H1 C1 cl fp => pts_one (pt_cmpR (op_notIn_seqK (K := K) rfl) (pe_op op_sub (pv 5) (pe_int)) (pv 2) (by with_unfolding_all rfl))) (fun s1 H1 C1 cl fp => pv 5))
      (pss_cons (ps_setLc (i := 4) (own := [("period", 5)]) (g := gName 5) (by rfl) sc_good_periods.nd rfl rfl (sw_true rfl rfl rfl (by decide +kernel)) (pi_sq (pv 2)) (blkOk_by (own := [("period", 5)]) (N := nm_good_periods) (sc := defScope s_good_periods) (by decide +kernel)) (fun _ _ _ _ _ => pg_name (i := 5) sc_good_periods.nd rfl (Or.inl rfl)) (fun s1 H1 C1 cl fp => pts_one (pt_cmpR (op_notIn_seqK (K := K) rfl) (pe_op op_add (pv 5) (pe_int)) (pv 2) (by with_unfolding_all rfl))) (fun s1 H1 C1 cl fp => pv 5))
      (pss_one (ps_ret (pe_listZip rfl (by rfl) T.n_list (by rfl) T.n_zip (pa_cons (pv 3) (pa_cons (pv 4) pa_nil)))))))), ?_⟩
    refine ⟨_, rfl, v, k, rfl, hk, fun hb => ?_, fun hb e he => hE hb e he⟩
    obtain ⟨lim, rfl, l1, l2⟩ := bt hb
    have hS := hQ lim rfl l1 l2
    obtain ⟨s1, s2, _⟩ := spans_ok _ (GL d t L z lim) rfl GL_asc
    have hgl := @GL_len d t L z lim
    refine ⟨_, rfl, _, rfl, p, lim, d, t, L, z, rfl, hp, Z, fun g H1 e1 hg => ?_⟩
    generalize GL d t L z lim = G at hS s1 s2 hg hgl
    have isG : ∀ v : V, v ∈ G.map V.int → ∃ n, v = .int n := fun v hv => by
      obtain ⟨n, _, rfl⟩ := List.mem_map.mp hv
      exact ⟨n, rfl⟩
    refine ⟨_, rfl, g, rfl, lc_sqR (f := id) (b := sideB (isLow G)) (.inl hg) (small_sz (by rw [List.length_map]; omega)) (fun x => rfl) (fun x hm H' e' Q' q' => ?_) (fun x hm _ H' e' Q' q' => ⟨_, rfl, q' _ Ext.rfl'⟩) (fun D1 H2 hD1 e2 hl1 => ?_)⟩
    · obtain ⟨n, rfl⟩ := isG x hm
      refine ⟨_, rfl, _, _, rfl, rfl, _, rfl, g, _, rfl, .inl (SqL.of (e' _ _ hg)), rfl, flat_ints, _, rfl, ?_⟩
      rw [inV_ints]
      exact q' _ Ext.rfl'
    · rw [side_filter, List.map_id] at hl1
      have hg2 := e2 _ _ hg
      refine ⟨_, rfl, g, rfl, lc_sqR (f := id) (b := sideB (isHigh G)) (.inl hg2) (small_sz (by rw [List.length_map]; omega)) (fun x => rfl) (fun x hm H' e' Q' q' => ?_) (fun x hm _ H' e' Q' q' => ⟨_, rfl, q' _ Ext.rfl'⟩) (fun D2 H3 hD2 e3 hl2 => ?_)⟩
      · obtain ⟨n, rfl⟩ := isG x hm
        refine ⟨_, rfl, _, _, rfl, rfl, _, rfl, g, _, rfl, .inl (SqL.of (e' _ _ hg2)), rfl, flat_ints, _, rfl, ?_⟩
        rw [inV_ints]
        exact q' _ Ext.rfl'
      · rw [side_filter, List.map_id] at hl2
        have e_lo : G.filter (isLow G) = (spans G).map Prod.fst := s1.symm
        have e_hi : G.filter (isHigh G) = (spans G).map Prod.snd := s2.symm
        have hsl : (spans G).length ≤ 200 := by
          have h1 := congrArg List.length e_lo
          rw [List.length_map] at h1
          have h2 := List.length_filter_le (isLow G) G
          omega
        rw [e_lo] at hl1
        rw [e_hi] at hl2
        refine ⟨_, rfl, _, rfl, D1, D2, _, _, rfl, SqL.of (e3 _ _ hl1), SqL.of hl2, by rw [List.length_map, List.length_map], by rw [List.length_map]; omega, fun D as H4 e4 hD4 hal hpr => ?_⟩
        refine hS D _ H4 (((e1.trans e2).trans e3).trans e4) hD4 (TAll.of ?_ fun i v hv => ?_)
        · rw [List.length_map, hal, List.length_map]
          unfold pairL
          rw [List.length_map]
        · rw [List.getElem?_map] at hv
          cases ha : as[i]? with
          | none => rw [ha] at hv; cases hv
          | some a =>
            rw [ha] at hv
            cases hv
            obtain ⟨x, y, hx, hy, ht⟩ := hpr i a ha
            rw [List.getElem?_map] at hx hy
            cases hs : (spans G)[i]? with
            | none => rw [hs] at hx; cases hx
            | some q =>
              rw [hs] at hx hy
              cases hx
              cases hy
              refine ⟨a, [q.1, q.2], rfl, ht, ?_⟩
              unfold pairL
              rw [List.getElem?_map, hs]
              rfl
def spFewest (A : Ad) : Sp := fun vs H Q E => ∃ (p : Addr) (v : V) (k : Knd) (d t : Int) (L : Nat) (z : Int), vs = [.ref p, v] ∧ KndOf H v k ∧ LullAt A H p d t (L : Int) z ∧ Sizes d t L z ∧
  (betw v 1 20000 = false → ∀ e, H e = none → E (.ref A.BadNumber) (some e) (upd H e (.xd [("number", v)]))) ∧
  (∀ lim, v = .int lim → 1 ≤ lim → lim ≤ 20000 → (GL d t L z lim = [] → ∀ H', Ext H H' → Q .non H') ∧
    ∀ g0 r, GL d t L z lim = g0 ++ [r] → ∀ q H', Ext H H' → H' q = some (.tup [.int ((z - 1) / r), .int r]) → Q (.ref q) H')
theorem ok_fewest {f : Addr} {fd : FuncData} (F : Fun K "fewest_signs" "fewest_signs" s_fewest_signs f fd) (T : Txt K mg A) (O_check_limit : Own P w K mg base (L2.CX P w) "check_limit" 4 pm_check_limit (spLimit A))
    (O_periods_that_do : Own P w K mg base CX0 "periods_that_do" 6 pm_periods_that_do (spGood A)) (O_signs_each : Own P w K mg base CX0 "signs_each" 1 pm_signs_each (spEach A)) : FnOk P w K mg base (L2.CX P w) 7 f fd pm_fewest_signs (spFewest A) := by
  refine F.okX sc_fewest_signs (fun vs H Q E h => ?_) (fun cdv A' outer s H vs Q E hr h => ?_)
  · obtain ⟨_, _, _, _, _, _, _, rfl, _⟩ := h
    rfl
  · obtain ⟨p, v, k, d, t, L, z, rfl, hk, hp, Z, hE, hQ⟩ := h
    refine ⟨_, pss_cons (ps_expr (pe_ownS O_check_limit (hr.mono (by decide)) (takes_of rfl rfl rfl rfl) (pa_cons (pv 1) pa_nil)))
      (pss_cons (ps_set (i := 2) sc_fewest_signs.nd rfl (Or.inl rfl) (pe_own O_periods_that_do (hr.mono (by decide)) pass0 (pa_cons (pv 0) (pa_cons (pv 1) pa_nil))))
      (pss_one (ps_ret (pe_ifExp (pt_truth (pv 2) (by intro _; rfl)) (pe_tup (pa_cons (pe_callB call_len_seq (by rfl) T.n_len (by decide +kernel) (pa_cons (pe_own O_signs_each (hr.mono (by decide)) pass0 (pa_cons (pv 0) (pa_cons (pe_ix ix_list (pv 2) (pe_un un_neg (pe_int)) (fun _ _ => rfl)) pa_nil))) pa_nil)) (pa_cons (pe_ix ix_list (pv 2) (pe_un un_neg (pe_int)) (fun _ _ => rfl)) pa_nil))) (pe_non))))), ?_⟩
    refine ⟨_, rfl, v, k, rfl, hk, fun hb => ?_, fun hb e he => hE hb e he⟩
    obtain ⟨lim, rfl, l1, l2⟩ := bt hb
    obtain ⟨hN, hS⟩ := hQ lim rfl l1 l2
    have hgl := @GL_len d t L z lim
    have hgm := @GL_mem d t L z lim
    refine ⟨_, rfl, _, rfl, p, lim, d, t, L, z, rfl, hp, Z, fun g H1 e1 hg => ?_⟩
    have hp1 := hp.ext e1
    generalize GL d t L z lim = G at hN hS hg hgl hgm
    by_cases h0 : G = []
    · subst h0
      exact ⟨_, rfl, false, .inl ⟨[], SqL.of hg, rfl⟩, iteF (hN rfl _ e1)⟩
    · obtain ⟨n, hn⟩ : ∃ n, G.length = n + 1 := ⟨G.length - 1, by have := List.length_pos_iff.mpr h0; omega⟩
      obtain ⟨g0, r, rfl, hg0⟩ := snocs hn
      have hr1 := hgm (p := r) (by simp)
      have hat : atI ((g0 ++ [r]).map V.int) (-1) = some (.int r) := by rw [List.map_append]; exact atI_last _ _
      refine ⟨_, rfl, true, .inl ⟨_, SqL.of hg, ?_⟩, iteT ?_⟩
      · rw [List.map_append]
        cases g0 <;> rfl
      refine ⟨_, rfl, _, rfl, _, rfl, g, _, _, .int r, rfl, rfl, SqL.of hg, hat, p, r, d, t, _, z, rfl, hp1, Z, hr1.1, hr1.2, fun q H2 e2 hq => ?_⟩
      refine ⟨q, _, rfl, .inr (SqT.of hq), _, rfl, _, rfl, g, _, _, .int r, rfl, rfl, SqL.of (e2 _ _ hg), hat, by show 2 ≤ sizeLine; decide, fun tt htt => ?_⟩
      have hl : (((sgn z r).map V.int).length : Int) = (z - 1) / r := by
        rw [List.length_map, sgn_len]
        have := Int.ediv_nonneg (show 0 ≤ z - 1 by have := Z.z1; omega) (show 0 ≤ r by omega)
        omega
      refine hS g0 r rfl tt _ ((e1.trans e2).trans (Ext.upd htt)) ?_
      rw [upd_same, hl]
end
end K33

set_option Elab.async false
set_option maxRecDepth 100000
set_option maxHeartbeats 4000000
namespace K33
open PySem PySem.Spec PyProof.Rows L2
theorem TAll.snoc {H : Hp} : ∀ {vs : List V} {SS : List (List Int)} {S : List Int}, TAll H vs (SS ++ [S]) → ∃ ws a, vs = ws ++ [.ref a] ∧ TAll H ws SS ∧ H a = some (.tup (S.map V.int))
  | [], [], _, h => h.elim
  | [], _ :: _, _, h => h.elim
  | [v], [], S, ⟨⟨a, h1, h2⟩, _⟩ => ⟨[], a, by rw [h1]; rfl, trivial, h2⟩
  | _ :: _ :: _, [], _, ⟨_, h⟩ => h.elim
  | v :: vs, S0 :: SS, S, ⟨h0, h⟩ => by
    obtain ⟨ws, a, rfl, h1, h2⟩ := TAll.snoc (vs := vs) (SS := SS) h
    exact ⟨v :: ws, a, rfl, ⟨h0, h1⟩, h2⟩
theorem pairL_snoc (F : List (Int × Int)) (q : Int × Int) : pairL (F ++ [q]) = pairL F ++ [[q.1, q.2]] := by
  unfold pairL
  rw [List.map_append]
  rfl
theorem tsD_ne {SS : List (List Int)} (h : SS ≠ []) : PyData.eqv (.list (tsD SS)) (.list []) = false := by
  cases SS with
  | nil => exact absurd rfl h
  | cons S SS => rfl
theorem tsD_same : ∀ SS : List (List Int), PyData.eqvAll (tsD SS) (tsD SS) = true
  | [] => rfl
  | S :: SS => by
    show (PyData.eqv (.tuple ((S.map V.int).map pd)) (.tuple ((S.map V.int).map pd)) && PyData.eqvAll (tsD SS) (tsD SS)) = true
    rw [tsD_same SS, Bool.and_true]
    show PyData.eqvAll ((S.map V.int).map pd) ((S.map V.int).map pd) = true
    rw [eqv_ints]
    exact decide_eq_true rfl
section
variable {P : Program} {w : World} {K : PySem.W.Frag} {mg : Str → Option Value} {base : Heap} {A : Ad}
def spLawLull : Sp := fun vs H Q _ => ∃ (st : Addr), vs = [.ref st] ∧ PoolD H st ∧ ∀ (pl : Addr) (d t : Int) (L : Nat) (z : Int) H', PlainAt H' pl d t (L : Int) z → Sizes d t L z → z ≤ 24 → pl ≠ st → PoolD H' st → ExtM st H H' → Q (.ref pl) H'
theorem ok_lawLull {f : Addr} {fd : FuncData} (F : Fun K "_law_lull" "_law_lull" s__law_lull f fd) (O__law_take : Own P w K mg base CX0 "_law_take" 1 pm__law_take spTake) : FnOk P w K mg base CX0 2 f fd pm__law_lull spLawLull := by
  refine F.ok sc__law_lull (fun vs H Q E h => ?_) (fun cdv A' outer s H vs Q E hr h => ?_)
  · obtain ⟨_, rfl, _⟩ := h
    rfl
  · obtain ⟨st, rfl, st1, k⟩ := h
    refine ⟨_, pss_cons (ps_set (i := 1) sc__law_lull.nd rfl (Or.inl rfl) (pe_op op_add (pe_int) (pe_own O__law_take (hr.mono (by decide)) pass0 (pa_cons (pv 0) (pa_cons (pe_int) pa_nil)))))
      (pss_one (ps_ret (pe_lst (pa_cons (pv 1) (pa_cons (pe_op op_add (pe_op op_mul (pe_int) (pv 1)) (pe_own O__law_take (hr.mono (by decide)) pass0 (pa_cons (pv 0) (pa_cons (pe_int) pa_nil)))) (pa_cons (pe_op op_add (pe_int) (pe_own O__law_take (hr.mono (by decide)) pass0 (pa_cons (pv 0) (pa_cons (pe_int) pa_nil)))) (pa_cons (pe_op op_add (pe_int) (pe_own O__law_take (hr.mono (by decide)) pass0 (pa_cons (pv 0) (pa_cons (pe_int) pa_nil)))) pa_nil))))))), ?_⟩
    refine ⟨_, rfl, st, 4, rfl, st1, by decide, by decide, fun n1 H2 n10 n13 st2 x2 => ⟨_, _, rfl, rfl, ?_⟩⟩
    refine ⟨_, rfl, _, rfl, _, _, rfl, rfl, .inl ⟨by decide, by decide⟩, _, rfl, st, 9, rfl, st2, by decide, by decide, fun n2 H3 n20 n26 st3 x3 => ⟨_, _, rfl, rfl, _, rfl, st, 3, rfl, st3, by decide, by decide, fun n3 H4 n30 n33 st4 x4 => ⟨_, _, rfl, rfl, _, rfl, st, 24, rfl, st4, by decide, by decide, fun n4 H5 n40 n48 st5 x5 => ⟨_, _, rfl, rfl, by show 4 ≤ sizeLine; decide, fun pl hpl => ?_⟩⟩⟩⟩
    obtain ⟨L, hL⟩ : ∃ L : Nat, 1 + n3 = (L : Int) := ⟨(1 + n3).toNat, by omega⟩
    have e6 := Ext.upd (o := .lst [.int (1 + n1), .int (2 * (1 + n1) + n2), .int (1 + n3), .int (1 + n4)]) hpl
    refine k pl (1 + n1) (2 * (1 + n1) + n2) L (1 + n4) _ ?_ ⟨by omega, by omega, by omega, by omega, by omega, by omega, by omega, by omega⟩ (by omega) (st5.new hpl) (st5.ext e6) ((((x2.trans x3).trans x4).trans x5).trans (Ext.m e6))
    unfold PlainAt
    rw [upd_same, ← hL]
def tbTold (A : Ad) (fG fF : Addr) (W : WX) : TS := tRet (fun g J Q => tCallVS 0 fG (spGoodPeriods A) (WE W) (tCons (tVar 1) (tCons (tVar 2) tNil)) g J Q ∨ tCallVS 0 fF (spFewest A) (WE W) (tCons (tVar 1) (tCons (tVar 2) tNil)) g J Q)
def tsTold (A : Ad) (a : Addr) (cls : Value) (d : Option Addr) : TS := tRet (tLst (tCons (tC (.str "number")) (tCons (tXf a cls d A.BadNumber "number" (tVar 3)) tNil)))
def spTold (A : Ad) (fG fF : Addr) : Sp := fun vs H Q _ => ∃ (f p : Addr) (v : V) (k : Knd) (d t : Int) (L : Nat) (z : Int), vs = [.ref f, .ref p, v] ∧ (f = fG ∨ f = fF) ∧ KndOf H v k ∧ LullAt A H p d t (L : Int) z ∧ Sizes d t L z ∧ betw v 1 20000 = false ∧
  ∀ r H', Ext H H' → H' r = some (.lst [.str "number", v]) → Q (.ref r) H'
theorem ok_told {f fG fF : Addr} {fd : FuncData} (F : Fun K "_law_told" "_law_told" s__law_told f fd) (T : Txt K mg A) (O_fG : OwnAt P w K mg base (L2.CX P w) fG 7 pm_good_periods (spGoodPeriods A)) (O_fF : OwnAt P w K mg base (L2.CX P w) fF 7 pm_fewest_signs (spFewest A)) : FnOk P w K mg base CX0 8 f fd pm__law_told (spTold A fG fF) := by
  refine F.ok sc__law_told (fun vs H Q E h => ?_) (fun cdv A' outer s H vs Q E hr h => ?_)
  · obtain ⟨_, _, _, _, _, _, _, _, rfl, _⟩ := h
    rfl
  · obtain ⟨fx, p, v, k, d, t, L, z, rfl, hf, hk, hp, Z, hb, q⟩ := h
    refine ⟨_, pss_one (ps_try_as (i := 3) (tb := tbTold A fG fF) (ts := tsTold A) (Wout := fun _ _ _ _ => False) rfl rfl sc__law_told.nd rfl rfl ⟨rfl, by decide, Or.inl T.BadNumber.gC⟩ takes0
        (fun W pn xe tk _ => pss_one (ps_ret (by exact (pe_either (pe_ownVS O_fG (hr.mono (by decide)) tk rfl (Or.inl rfl) (pa_cons (pv 1) (pa_cons (pv 2) pa_nil))) (pe_ownVS O_fF (hr.mono (by decide)) tk rfl (Or.inl rfl) (pa_cons (pv 1) (pa_cons (pv 2) pa_nil)))))))
        (fun a oe cls d pn hz hf => pss_one (ps_ret (by exact (pe_lst (pa_cons pe_str (pa_cons (pe_xf ⟨T.BadNumber.ec.hg, T.BadNumber.ec.hk, T.BadNumber.ec.hs, T.BadNumber.ec.hd⟩ T.BadNumber.noA hz hf (pv 3)) pa_nil))))))), ?_⟩
    rcases hf with rfl | rfl
    · refine .inl ⟨rfl, _, rfl, _, rfl, p, v, k, d, t, L, z, rfl, hk, hp, Z, fun _ e he => ?_, fun lim e l1 l2 => ?_⟩
      · refine ⟨true, T.x_nn, fun _ ae hae => ?_, fun z => nomatch z⟩
        refine ⟨_, rfl, rfl, rfl, e, _, _, rfl, upd_same, rfl, by show 2 ≤ sizeLine; decide, fun r hr => ?_⟩
        exact q r _ ((Ext.upd he).upd' hr) upd_same
      · rw [e, bw l1 l2] at hb
        cases hb
    · refine .inr ⟨rfl, _, rfl, _, rfl, p, v, k, d, t, L, z, rfl, hk, hp, Z, fun _ e he => ?_, fun lim e l1 l2 => ?_⟩
      · refine ⟨true, T.x_nn, fun _ ae hae => ?_, fun z => nomatch z⟩
        refine ⟨_, rfl, rfl, rfl, e, _, _, rfl, upd_same, rfl, by show 2 ≤ sizeLine; decide, fun r hr => ?_⟩
        exact q r _ ((Ext.upd he).upd' hr) upd_same
      · rw [e, bw l1 l2] at hb
        cases hb
def spSpans : Sp := fun vs H Q _ => ∃ (g : Addr) (G : List Int), vs = [.ref g] ∧ H g = some (.lst (G.map V.int)) ∧ G.length ≤ 1000 ∧ ∀ r ws H', Ext H H' → H' r = some (.lst ws) → TAll H' ws (pairL (spans G)) → Q (.ref r) H'
theorem ok_spans {f : Addr} {fd : FuncData} (F : Fun K "_law_spans" "_law_spans" s__law_spans f fd) (T : Txt K mg A) : FnOk P w K mg base CX0 1 f fd pm__law_spans spSpans := by
  refine F.ok sc__law_spans (fun vs H Q E h => ?_) (fun cdv A' outer s H vs Q E hr h => ?_)
  · obtain ⟨_, _, rfl, _⟩ := h
    rfl
  · obtain ⟨g, G, rfl, hg, hG, k⟩ := h
    refine ⟨_, pss_cons (ps_set (i := 1) sc__law_spans.nd rfl (Or.inl rfl) (pe_lst (pa_nil)))
      (pss_cons (ps_for PassesOwn.never rfl (pi_list (pv 0)) (pg_name (i := 2) sc__law_spans.nd rfl (Or.inl rfl)) (pss_one (ps_if (PW.pt (pw_and (pt_cmpR (op_neD hr.units) (pv 1) (pe_lst (pa_nil)) (nomark _)) (pw_and1 (pt_cmpR op_eq (pe_ix ix_tup (pe_ix ix_list (pv 1) (pe_un un_neg (pe_int)) (fun _ _ => rfl)) (pe_int) (fun _ _ => rfl)) (pe_op op_sub (pv 2) (pe_int)) (nomark _))))) (pss_one (ps_asg (pe_tup (pa_cons (pe_ix ix_tup (pe_ix ix_list (pv 1) (pe_un un_neg (pe_int)) (fun _ _ => rfl)) (pe_int) (fun _ _ => rfl)) (pa_cons (pv 2) pa_nil))) (pg_sub (pv 1) (pe_un un_neg (pe_int)) set_list))) (pss_one (ps_expr (pe_bm PySem.F.plainAttrs_list PySem.F.slot_list_append PySem.F.type_list_append mt_append (pv 1) (pa_cons (pe_tup (pa_cons (pv 2) (pa_cons (pv 2) pa_nil))) pa_nil)))))))
      (pss_one (ps_ret (pv 1)))), ?_⟩
    refine ⟨by show 0 ≤ sizeLine; decide, fun r hr => ?_⟩
    have e0 := Ext.upd (o := .lst []) hr
    refine ⟨_, rfl, g, rfl, ⟨_, SqL.of (e0 _ _ hg)⟩, ?_⟩
    refine for_list (xs := G.map V.int) (fun i σ' H' => ∃ (ws : List V) (o : Option V), σ' = [some (.ref g), some (.ref r), o] ∧ Ext H H' ∧ H' r = some (.lst ws) ∧ ws.length ≤ i ∧ TAll H' ws (pairL (spans (G.take i)))) ⟨[], _, rfl, e0, upd_same, Nat.le_refl _, trivial⟩ (fun i σ' H' _ pv => ?_) (fun i x σ' H' hx pv => ?_) (fun σ' H' pv => ?_)
    · obtain ⟨ws, o, rfl, e, _⟩ := pv
      exact SqL.of (e _ _ hg)
    · obtain ⟨ws, o, rfl, e, hw, hwl, ht⟩ := pv
      obtain ⟨p, hp, rfl⟩ : ∃ p, G[i]? = some p ∧ x = .int p := by
        rw [List.getElem?_map] at hx
        cases hp : G[i]? with
        | none => rw [hp] at hx; cases hx
        | some p => rw [hp] at hx; cases hx; exact ⟨p, rfl, rfl⟩
      have hi : i < G.length := (List.getElem?_eq_some_iff.mp hp).1
      have tk : spans (G.take (i + 1)) = spanStep (spans (G.take i)) p := by rw [take_snoc hp, spans_snoc]
      rw [tk]
      generalize spans (G.take i) = FF at ht
      refine ⟨_, rfl, by show 0 ≤ sizeLine; decide, fun e1 he1 => ?_⟩
      have ee := Ext.upd (o := .lst []) he1
      refine ⟨.list (tsD (pairL FF)), .list [], .lst (SqL.of (ee _ _ hw)) (ht.ext ee).dp, .lst (SqL.of upd_same) .nil, tsD_shp _, rfl, _, rfl, ?_⟩
      have hw1 := ee _ _ hw
      have ht1 := ht.ext ee
      have e2 := e.trans ee
      generalize upd H' e1 _ = H1 at hw1 ht1 e2
      have app : spanStep FF p = FF ++ [(p, p)] → ∀ H2, Ext H1 H2 → ∀ t, H2 t = some (.tup [.int p, .int p]) → ∃ (ws' : List V) (o : Option V), [some (V.ref g), some (.ref r), some (.int p)] = [some (.ref g), some (.ref r), o] ∧ Ext H (upd H2 r (.lst (ws ++ [.ref t]))) ∧ upd H2 r (.lst (ws ++ [.ref t])) r = some (.lst ws') ∧ ws'.length ≤ i + 1 ∧ TAll (upd H2 r (.lst (ws ++ [.ref t]))) ws' (pairL (spanStep FF p)) := fun hs H2 e3 t ht2 => by
        refine ⟨ws ++ [.ref t], _, rfl, ext_mut (e2.trans e3) hr, upd_same, by rw [List.length_append]; show ws.length + 1 ≤ i + 1; omega, ?_⟩
        rw [hs, pairL_snoc]
        exact ((ht1.ext e3).app (TAll.one ht2)).updL (e3 _ _ hw1)
      by_cases h0 : FF = []
      · have hs : spanStep FF p = FF ++ [(p, p)] := by rw [h0]; rfl
        have e0' : PyData.eqv (.list (tsD (pairL FF))) (.list []) = true := by rw [h0]; rfl
        rw [e0']
        refine iteF (iteF ⟨_, rfl, .inl ⟨rfl, _, SqL.of hw1⟩, _, rfl, _, rfl, by show 2 ≤ sizeLine; decide, fun t ht => ⟨r, _, _, rfl, rfl, Ext.upd ht _ _ hw1, small1000 (by omega), app hs _ (Ext.upd ht) t upd_same⟩⟩)
      · have hne : pairL FF ≠ [] := fun z => h0 (List.map_eq_nil_iff.mp z)
        rw [tsD_ne hne]
        obtain ⟨n, hn⟩ : ∃ n, FF.length = n + 1 := ⟨FF.length - 1, by have := List.length_pos_iff.mpr h0; omega⟩
        obtain ⟨F0, q, rfl, _⟩ := snocs hn
        have ht1' := ht1
        rw [pairL_snoc] at ht1'
        obtain ⟨ws0, a, rfl, ht0, ha⟩ := TAll.snoc ht1'
        have hat : atI (ws0 ++ [V.ref a]) (-1) = some (.ref a) := atI_last _ _
        refine iteT ⟨_, rfl, _, rfl, r, _, _, .ref a, rfl, rfl, SqL.of hw1, hat, a, [.int q.1, .int q.2], 1, .int q.2, rfl, rfl, SqT.of ha, rfl, _, rfl, _, _, rfl, rfl, rfl, _, rfl, ?_⟩
        rw [dvi]
        by_cases hq : q.2 = p - 1
        · rw [decide_eq_true hq]
          have hs : spanStep (F0 ++ [q]) p = F0 ++ [(q.1, p)] := by
            unfold spanStep
            rw [List.getLast?_concat]
            dsimp only
            rw [if_pos hq, List.dropLast_concat]
          refine iteT ⟨_, rfl, _, rfl, r, _, _, .ref a, rfl, rfl, SqL.of hw1, hat, a, [.int q.1, .int q.2], 0, .int q.1, rfl, rfl, SqT.of ha, rfl, _, rfl, by show 2 ≤ sizeLine; decide, fun t ht2 => ?_⟩
          have e3 := Ext.upd (o := .tup [.int q.1, .int p]) ht2
          refine ⟨_, rfl, _, rfl, r, _, _, ws0.length, rfl, rfl, e3 _ _ hw1, ?_, ?_⟩
          · rw [List.length_append]
            show (if (0 : Int) ≤ -1 then _ else if -((ws0.length + 1 : Nat) : Int) ≤ -1 then some ((-1 : Int) + ((ws0.length + 1 : Nat) : Int)).toNat else none) = some ws0.length
            rw [if_neg (by decide), if_pos (by omega)]
            congr 1
            omega
          · have hset : (ws0 ++ [V.ref a]).set ws0.length (.ref t) = ws0 ++ [.ref t] := by
              rw [List.set_append_right _ _ (Nat.le_refl _), Nat.sub_self]
              rfl
            rw [hset]
            refine ⟨_, _, rfl, ext_mut (e2.trans e3) hr, upd_same, ?_, ?_⟩
            · rw [List.length_append] at hwl ⊢
              show ws0.length + 1 ≤ i + 1
              have : ws0.length + 1 ≤ i := hwl
              omega
            · rw [hs, pairL_snoc]
              exact ((ht0.ext e3).app (TAll.one upd_same)).updL (e3 _ _ hw1)
        · rw [decide_eq_false hq]
          have hs : spanStep (F0 ++ [q]) p = F0 ++ [q] ++ [(p, p)] := by
            unfold spanStep
            rw [List.getLast?_concat]
            dsimp only
            rw [if_neg hq]
          refine iteF ⟨_, rfl, .inl ⟨rfl, _, SqL.of hw1⟩, _, rfl, _, rfl, by show 2 ≤ sizeLine; decide, fun t ht => ⟨r, _, _, rfl, rfl, Ext.upd ht _ _ hw1, small1000 (by omega), ?_⟩⟩
          exact app hs _ (Ext.upd ht) t upd_same
    · obtain ⟨ws, o, rfl, e, hw, hwl, ht⟩ := pv
      rw [List.length_map, List.take_length] at ht
      exact ⟨_, rfl, k r ws _ e hw ht⟩
end
end K33

set_option Elab.async false
set_option maxRecDepth 100000
set_option maxHeartbeats 4000000
namespace K33
open PySem PySem.Spec PyProof.Rows L2
theorem getD_last {S : List Int} {a : Int} : (S ++ [a]).getD S.length 0 = a := by
  rw [List.getD_eq_getElem?_getD, List.getElem?_append_right (Nat.le_refl _), Nat.sub_self]
  rfl
theorem GL_last {d t : Int} {L : Nat} {z lim : Int} {g0 : List Int} {r : Int} (h : GL d t L z lim = g0 ++ [r]) : (∀ p ∈ GL d t L z lim, 1 ≤ p ∧ p ≤ r) ∧ 1 ≤ r ∧ r ≤ 200 := by
  have ha : Asc (g0 ++ [r]) := by rw [← h]; exact GL_asc
  have hr : r ∈ GL d t L z lim := by rw [h]; simp
  refine ⟨fun p hp => ⟨(GL_mem hp).1, ?_⟩, GL_mem hr⟩
  rw [h] at hp
  rcases List.mem_append.mp hp with e | e
  · exact Int.le_of_lt ((asc_snoc ha).2 p e)
  · rw [List.mem_singleton.mp e]
    exact Int.le_refl _
def GapsAt (H : Hp) (gp : Addr) (d t : Int) (L : Nat) (z : Int) : Prop := ∃ gs : List V, H gp = some (.lst gs) ∧ gs.length = 201 ∧ ∀ i : Nat, i < 200 → gs[1 + i]? = some (.int (gapV d t L z (sgn z (1 + (i : Int)))))
theorem GapsAt.ext {H H' : Hp} {gp : Addr} {d t : Int} {L : Nat} {z : Int} (h : GapsAt H gp d t L z) (e : Ext H H') : GapsAt H' gp d t L z := by
  obtain ⟨gs, h1, h2⟩ := h
  exact ⟨gs, e _ _ h1, h2⟩
def cntV (z : Int) : V → V | .int p => .int ((z - 1) / p) | v => v
theorem cnt_map (z : Int) (G : List Int) : (G.map V.int).map (cntV z) = (G.map fun p => (z - 1) / p).map V.int := by
  rw [List.map_map, List.map_map]
  rfl
section
variable {P : Program} {w : World} {K : PySem.W.Frag} {mg : Str → Option Value} {base : Heap} {A : Ad}
def spLimitRight (A : Ad) : Sp := fun vs H Q _ => ∃ (pl x0 gp : Addr) (lim d t : Int) (L : Nat) (z : Int), vs = [.ref pl, .ref x0, .ref gp, .int lim] ∧ PlainAt H pl d t (L : Int) z ∧ LullAt A H x0 d t (L : Int) z ∧ Sizes d t L z ∧ GapsAt H gp d t L z ∧ 1 ≤ lim ∧ lim ≤ 20000 ∧ ∀ H', Ext H H' → Q (.bl true) H'
theorem ok_limitRight {f : Addr} {fd : FuncData} (F : Fun K "_law_limit_right" "_law_limit_right" s__law_limit_right f fd) (T : Txt K mg A) (O_good_periods : Own P w K mg base (L2.CX P w) "good_periods" 7 pm_good_periods (spGoodPeriods A)) (O_fewest_signs : Own P w K mg base (L2.CX P w) "fewest_signs" 7 pm_fewest_signs (spFewest A))
    (O__law_spans : Own P w K mg base CX0 "_law_spans" 1 pm__law_spans spSpans) : FnOk P w K mg base CX0 9 f fd pm__law_limit_right (spLimitRight A) := by
  refine F.ok sc__law_limit_right (fun vs H Q E h => ?_) (fun cdv A' outer s H vs Q E hr h => ?_)
  · obtain ⟨_, _, _, _, _, _, _, _, rfl, _⟩ := h
    rfl
  · obtain ⟨pl, x0, gp, lim, d, t, L, z, rfl, hp, hl, Z, ⟨gs, hg1, hg2, hg3⟩, l1, l2, k⟩ := h
    refine ⟨_, pss_cons (ps_set (i := 4) sc__law_limit_right.nd rfl (Or.inr rfl) (pe_lc (own := [("_law_period", 8)]) (g := gName 8) (by rfl) sc__law_limit_right.nd (pi_range2 rfl T.n_range (pa_cons (pe_int) (pa_cons (pe_int) pa_nil))) (blkOk_by (own := [("_law_period", 8)]) (N := nm__law_limit_right) (sc := defScope s__law_limit_right) (by decide +kernel)) (fun _ _ _ _ _ => pg_name (i := 8) sc__law_limit_right.nd rfl (Or.inl rfl)) (fun s1 H1 C1 cl fp => pts_one (pt_cmpR op_le (pe_ix (ix_listK (K := K) rfl) (pv 2) (pv 8) (fun _ _ => rfl)) (pv 3) (nomark _))) (fun s1 H1 C1 cl fp => pv 8)))
      (pss_cons (ps_if (pt_cmpR (op_neD hr.units) (pe_own O_good_periods (hr.mono (by decide)) passL (pa_cons (pv 1) (pa_cons (pv 3) pa_nil))) (pe_own O__law_spans (hr.mono (by decide)) pass0 (pa_cons (pv 4) pa_nil)) (nomark _)) (pss_one (ps_ret (pe_bl))) (pss_nil))
      (pss_cons (ps_if (pt_cmpR (op_eqD hr.units) (pv 4) (pe_lst (pa_nil)) (nomark _)) (pss_one (ps_ret (pe_cmpR op_isN (pe_own O_fewest_signs (hr.mono (by decide)) passL (pa_cons (pv 1) (pa_cons (pv 3) pa_nil))) (pe_non) (nomark _)))) (pss_nil))
      (pss_cons (ps_set (i := 5) sc__law_limit_right.nd rfl (Or.inr rfl) (pe_lc (own := [("_law_period", 8)]) (g := gName 8) (by rfl) sc__law_limit_right.nd (pi_sq (pv 4)) (blkOk_by (own := [("_law_period", 8)]) (N := nm__law_limit_right) (sc := defScope s__law_limit_right) (by decide +kernel)) (fun _ _ _ _ _ => pg_name (i := 8) sc__law_limit_right.nd rfl (Or.inl rfl)) (fun s1 H1 C1 cl fp => pts_nil) (fun s1 H1 C1 cl fp => pe_op op_fdivN (pe_op op_sub (pe_ix (ix_listK (K := K) rfl) (pv 0) (pe_int) (fun _ _ => rfl)) (pe_int)) (pv 8))))
      (pss_cons (ps_set (i := 6) sc__law_limit_right.nd rfl (Or.inr rfl) (pe_callB (cr_min rfl) (by rfl) T.n_min (by decide +kernel) (pa_cons (pe_lc (own := [("_law_count", 9)]) (g := gName 9) (by rfl) sc__law_limit_right.nd (pi_sq (pv 5)) (blkOk_by (own := [("_law_count", 9)]) (N := nm__law_limit_right) (sc := defScope s__law_limit_right) (by decide +kernel)) (fun _ _ _ _ _ => pg_name (i := 9) sc__law_limit_right.nd rfl (Or.inl rfl)) (fun s1 H1 C1 cl fp => pts_nil) (fun s1 H1 C1 cl fp => pe_callTy call_int1 (by rfl) T.n_int (by decide +kernel) (pa_cons (pv 9) pa_nil))) pa_nil)))
      (pss_cons (ps_set (i := 7) sc__law_limit_right.nd rfl (Or.inl rfl) (pe_tup (pa_cons (pv 6) (pa_cons (pe_callB (cr_max rfl) (by rfl) T.n_max (by decide +kernel) (pa_cons (pe_lc (own := [("_law_at", 10)]) (g := gName 10) (by rfl) sc__law_limit_right.nd (pi_range1 rfl T.n_range (pa_cons (pe_callB call_len_seq (by rfl) T.n_len (by decide +kernel) (pa_cons (pv 4) pa_nil)) pa_nil)) (blkOk_by (own := [("_law_at", 10)]) (N := nm__law_limit_right) (sc := defScope s__law_limit_right) (by decide +kernel)) (fun _ _ _ _ _ => pg_name (i := 10) sc__law_limit_right.nd rfl (Or.inl rfl)) (fun s1 H1 C1 cl fp => pts_one (pt_cmpR op_eq (pe_ix (ix_listK (K := K) rfl) (pv 5) (pv 10) (fun _ _ => rfl)) (pv 6) (nomark _))) (fun s1 H1 C1 cl fp => pe_callTy call_int1 (by rfl) T.n_int (by decide +kernel) (pa_cons (pe_ix (ix_listK (K := K) rfl) (pv 4) (pv 10) (fun _ _ => rfl)) pa_nil))) pa_nil)) pa_nil))))
      (pss_one (ps_ret (pe_cmpR (op_eqD hr.units) (pe_own O_fewest_signs (hr.mono (by decide)) passL (pa_cons (pv 1) (pa_cons (pv 3) pa_nil))) (pv 7) (nomark _))))))))), ?_⟩
    have hbw : betw (.int lim) 1 20000 = true := bw l1 l2
    refine ⟨1, 201, rfl, ⟨by decide, by decide, by decide, by decide⟩, lc_rgR (n := 200) (b := gB d t L z lim) (f := fun i => .int (1 + (i : Int))) (small_sz (by omega)) (fun x => rfl) (fun i hi H' e' Q' q' => ?_) (fun i hi _ H' e' Q' q' => ⟨_, rfl, q' _ Ext.rfl'⟩) (fun g H1 hgn e1 hgl => ?_)⟩
    · exact ⟨_, rfl, _, rfl, gp, gs, _, _, rfl, rfl, SqL.of (e' _ _ hg1), (by rw [show (1 : Int) + (i : Int) = ((1 + i : Nat) : Int) by omega]; exact atI_nat (hg3 i hi)), _, rfl, _, _, rfl, rfl, _, rfl, q' _ Ext.rfl'⟩
    · have hG : H1 g = some (.lst ((GL d t L z lim).map V.int)) := by
        rw [hgl]
        unfold GL
        rw [List.map_map]
        rfl
      have hlen := @GL_len d t L z lim
      refine ⟨_, rfl, _, rfl, x0, .int lim, .int, d, t, L, z, rfl, ki _, hl.ext e1, Z, (fun hb => by rw [hbw] at hb; cases hb), fun lim2 el _ _ q ws H2 e2 hq htq => ?_⟩
      cases el
      refine ⟨_, rfl, g, _, rfl, e2 _ _ hG, by omega, fun r ws' H3 e3 hr htr => ?_⟩
      refine ⟨.list (tsD (pairL (spans (GL d t L z lim)))), .list (tsD (pairL (spans (GL d t L z lim)))), .lst (SqL.of (e3 _ _ hq)) (htq.ext e3).dp, .lst (SqL.of hr) htr.dp, tsD_shp _, tsD_shp _, _, rfl, ?_⟩
      rw [show PyData.eqv (.list (tsD (pairL (spans (GL d t L z lim))))) (.list (tsD (pairL (spans (GL d t L z lim))))) = true from tsD_same _]
      refine iteF ?_
      have e03 := (e1.trans e2).trans e3
      have hG3 := (e2.trans e3) _ _ hG
      refine ⟨_, rfl, by show 0 ≤ sizeLine; decide, fun e he => ?_⟩
      have ee := Ext.upd (o := .lst []) he
      refine eqD_lst (vs := (GL d t L z lim).map V.int) (us := ([] : List Int).map V.int) (SqL.of (ee _ _ hG3)) (SqL.of upd_same) fl_ints fl_ints ⟨_, rfl, ?_⟩
      rw [eqv_ints]
      have hG4 := ee _ _ hG3
      have e04 := e03.trans ee
      generalize upd H3 e _ = H4 at hG4 e04
      by_cases h0 : GL d t L z lim = []
      · rw [decide_eq_true h0]
        refine iteT ⟨_, rfl, _, rfl, x0, .int lim, .int, d, t, L, z, rfl, ki _, hl.ext e04, Z, (fun hb => by rw [hbw] at hb; cases hb), fun lim2 el _ _ => ?_⟩
        cases el
        refine ⟨fun _ H5 e5 => ⟨rfl, k _ (e04.trans e5)⟩, fun g0 r hgr => ?_⟩
        rw [h0] at hgr
        exact absurd (congrArg List.length hgr) (by simp)
      · rw [decide_eq_false h0]
        refine iteF ?_
        obtain ⟨n, hn⟩ : ∃ n, (GL d t L z lim).length = n + 1 := ⟨(GL d t L z lim).length - 1, by have := List.length_pos_iff.mpr h0; omega⟩
        obtain ⟨g0, r, hgr, hg0⟩ := snocs hn
        obtain ⟨hle, r1, r2⟩ := GL_last hgr
        have hz1 := Z.z1
        have isG : ∀ v : V, v ∈ (GL d t L z lim).map V.int → ∃ n, v = .int n ∧ n ∈ GL d t L z lim := fun v hv => by
          obtain ⟨n, hn, rfl⟩ := List.mem_map.mp hv
          exact ⟨n, rfl, hn⟩
        refine ⟨_, rfl, g, rfl, lc_sqR (f := cntV z) (b := fun _ => true) (.inl hG4) (small_sz (by rw [List.length_map]; omega)) (fun x => rfl) (fun x hm H' e' Q' q' => q' _ Ext.rfl') (fun x hm _ H' e' Q' q' => ?_) (fun C H5 hC e5 hlC => ?_)⟩
        · obtain ⟨n, rfl, hn⟩ := isG x hm
          have hn1 := GL_mem hn
          refine ⟨_, rfl, pl, _, 3, .int z, rfl, rfl, SqL.of ((e04.trans e') _ _ hp), rfl, _, _, rfl, rfl, _, rfl, _, _, rfl, rfl, ⟨by omega, by omega⟩, ?_⟩
          have := q' _ Ext.rfl'
          dsimp only
          rw [show (z - 1).fdiv n = (z - 1) / n from Int.fdiv_eq_ediv_of_nonneg _ (by omega)]
          exact this
        · rw [L2.filter_all, cnt_map] at hlC
          have hrm : r ∈ GL d t L z lim := by rw [hgr]; simp
          refine ⟨_, rfl, C, rfl, lc_sqR (f := id) (b := fun _ => true) (.inl hlC) (small_sz (by rw [List.length_map, List.length_map]; omega)) (fun x => rfl) (fun x hm H' e' Q' q' => q' _ Ext.rfl') (fun x hm _ H' e' Q' q' => ?_) (fun D6 H6 hD6 e6 hl6 => ?_)⟩
          · obtain ⟨n, _, rfl⟩ := List.mem_map.mp hm
            exact ⟨_, rfl, .inl ⟨_, rfl, q' _ Ext.rfl'⟩⟩
          · rw [L2.filter_all, List.map_id] at hl6
            refine ⟨D6, _, rfl, SqL.of hl6, by rw [List.length_map]; omega, fun m hm hmin => ?_⟩
            have em : m = (z - 1) / r := by
              obtain ⟨p, hp', e⟩ := List.mem_map.mp hm
              have h1 := hmin ((z - 1) / r) (List.mem_map.mpr ⟨r, hrm, rfl⟩)
              have h2 := hle p hp'
              have h3 := cnt_le hz1 h2.1 h2.2
              omega
            subst em
            have hG6 := (e5.trans e6) _ _ hG4
            have hC6 := e6 _ _ hlC
            have hgetC : ∀ i : Nat, i < (GL d t L z lim).length → atI (((GL d t L z lim).map fun p => (z - 1) / p).map V.int) (i : Int) = some (.int ((z - 1) / (GL d t L z lim).getD i 0)) := fun i hi => by
              refine atI_nat ?_
              rw [List.getElem?_map, List.getElem?_map, List.getD_eq_getElem?_getD, List.getElem?_eq_getElem hi]
              rfl
            refine ⟨_, rfl, _, rfl, g, _, rfl, .inl (SqL.of hG6), _, rfl, by omega, by rw [List.length_map]; omega, ?_⟩
            rw [List.length_map, Int.toNat_natCast]
            refine lc_rgR (b := fun i => decide ((z - 1) / (GL d t L z lim).getD i 0 = (z - 1) / r)) (f := fun i => .int ((GL d t L z lim).getD i 0)) (small_sz (by omega)) (fun x => rfl) (fun i hi H' e' Q' q' => ?_) (fun i hi _ H' e' Q' q' => ?_) (fun D7 H7 hD7 e7 hl7 => ?_)
            · refine ⟨_, rfl, _, rfl, C, _, _, .int ((z - 1) / (GL d t L z lim).getD i 0), rfl, rfl, SqL.of (e' _ _ hC6), (by rw [Int.zero_add]; exact hgetC i hi), _, rfl, rfl, _, rfl, ?_⟩
              rw [dvi]
              exact q' _ Ext.rfl'
            · exact ⟨_, rfl, _, rfl, g, _, _, .int ((GL d t L z lim).getD i 0), rfl, rfl, SqL.of (e' _ _ hG6), (by rw [Int.zero_add]; exact atI_nat (get_int hi)), .inl ⟨_, rfl, q' _ Ext.rfl'⟩⟩
            · have hlast : (GL d t L z lim).getD n 0 = r := by
                rw [hgr, ← hg0]
                exact getD_last
              have mem_ns : ∀ y : Int, y ∈ ((List.range (GL d t L z lim).length).filter fun i => decide ((z - 1) / (GL d t L z lim).getD i 0 = (z - 1) / r)).map (fun i => (GL d t L z lim).getD i 0) → y ∈ GL d t L z lim := fun y hy => by
                obtain ⟨i, hi, rfl⟩ := List.mem_map.mp hy
                have := List.mem_range.mp (List.mem_filter.mp hi).1
                rw [List.getD_eq_getElem?_getD, List.getElem?_eq_getElem this]
                exact List.getElem_mem this
              have r_ns : r ∈ ((List.range (GL d t L z lim).length).filter fun i => decide ((z - 1) / (GL d t L z lim).getD i 0 = (z - 1) / r)).map (fun i => (GL d t L z lim).getD i 0) := by
                refine List.mem_map.mpr ⟨n, List.mem_filter.mpr ⟨List.mem_range.mpr (by omega), ?_⟩, hlast⟩
                rw [hlast]
                exact decide_eq_true rfl
              refine ⟨D7, ((List.range (GL d t L z lim).length).filter fun i => decide ((z - 1) / (GL d t L z lim).getD i 0 = (z - 1) / r)).map (fun i => (GL d t L z lim).getD i 0), rfl, SqL.of (by rw [hl7, List.map_map]; rfl), List.length_pos_of_mem r_ns, fun m hm hmax => ?_⟩
              have em : m = r := by
                have h1 := hmax r r_ns
                have h2 := (hle m (mem_ns m hm)).2
                omega
              subst em
              refine ⟨by show 2 ≤ sizeLine; decide, fun tt htt => ?_⟩
              have e8 := Ext.upd (o := .tup [.int ((z - 1) / m), .int m]) htt
              have e08 := (((e04.trans e5).trans e6).trans e7).trans e8
              refine ⟨_, rfl, _, rfl, x0, .int lim, .int, d, t, L, z, rfl, ki _, hl.ext e08, Z, (fun hb => by rw [hbw] at hb; cases hb), fun lim2 el _ _ => ?_⟩
              cases el
              refine ⟨fun hn => absurd hn h0, fun g1 r' hgr' qf H9 e9 hqf => ?_⟩
              have er : r' = m := by
                rw [hgr] at hgr'
                have := congrArg List.getLast? hgr'
                rw [List.getLast?_concat, List.getLast?_concat] at this
                exact (Option.some.inj this).symm
              subst er
              refine ⟨_, rfl, eqD_tup (vs := [(z - 1) / r', r'].map V.int) (us := [(z - 1) / r', r'].map V.int) (SqT.of hqf) (SqT.of (e9 _ _ upd_same)) fl_ints fl_ints ?_⟩
              rw [eqv_ints, decide_eq_true rfl]
              exact k _ (e08.trans e9)
end
end K33

set_option Elab.async false
set_option maxRecDepth 100000
set_option maxHeartbeats 4000000
namespace K33
open PySem PySem.Spec PyProof.Rows L2
theorem ext_st {st : Addr} {H0 H H' : Hp} (e : Ext H0 H) (h0 : H0 st = none) (x : ExtM st H H') : Ext H0 H' := fun a u h => x a u (ne_of_none h h0) (e a u h)
theorem gap_le {d t z m : Int} {L : Nat} {S : List Int} (k : LullOk d t L z) (hr : Rise z S) (h : Gap d t L z S m) : m ≤ z + (L : Int) * t + 2 * d := by
  obtain ⟨⟨i, hi, h1⟩, _⟩ := h
  have a := st_add k hr (i + (L + 1)) (S.length - i)
  rw [show i + (L + 1) + (S.length - i) = S.length + 1 + L by omega, st_out] at a
  have b := st_add k hr 0 i
  rw [st_zero, Nat.zero_add] at b
  omega
theorem okOf {d t z : Int} {L : Nat} (Z : Sizes d t L z) : LullOk d t L z := ⟨Z.d1, Z.t1, by have := Z.l1; omega, Z.z1⟩
theorem odds : ∀ x ∈ [V.int 0, .int (-1), .int 20001, .bl true, .non, .str "5"], betw x 1 20000 = false ∧ (∃ k, ∀ H, KndOf H x k) ∧ Fl x := fun x hx => by
  simp only [List.mem_cons, List.not_mem_nil, or_false] at hx
  rcases hx with rfl | rfl | rfl | rfl | rfl | rfl
  · exact ⟨by decide, ⟨.int, fun _ => ki _⟩, trivial⟩
  · exact ⟨by decide, ⟨.int, fun _ => ki _⟩, trivial⟩
  · exact ⟨by decide, ⟨.int, fun _ => ki _⟩, trivial⟩
  · exact ⟨rfl, ⟨.bool, fun _ => kb _⟩, trivial⟩
  · exact ⟨rfl, ⟨.none, fun _ => kn⟩, trivial⟩
  · exact ⟨rfl, ⟨.str, fun _ => ks _⟩, (by show PySem.PyData.canLay0 (.str "5") = true; decide +kernel)⟩
section
variable {P : Program} {w : World} {K : PySem.W.Frag} {mg : Str → Option Value} {base : Heap} {A : Ad}
def spLaw (K : PySem.W.Frag) : Sp := fun vs H Q _ => ∃ (a : Addr) (ns : List Int), vs = [.ref a] ∧ SqL K H a (ns.map V.int) ∧ ns.length ≤ 63 ∧ ∀ H', Q (.bl true) H'
theorem ok_law {f fG fF : Addr} {fd : FuncData} (F : Fun K "law" "law" s_law f fd) (T : Txt K mg A) (hG : mg "good_periods" = some (.ref fG)) (hF : mg "fewest_signs" = some (.ref fF)) (O__law_pool : Own P w K mg base CX0 "_law_pool" 1 pm__law_pool (spPool K)) (O__law_take : Own P w K mg base CX0 "_law_take" 1 pm__law_take spTake) (O__law_one : Own P w K mg base CX0 "_law_one" 2 pm__law_one spOne)
    (O__law_lull : Own P w K mg base CX0 "_law_lull" 2 pm__law_lull spLawLull) (O_Lull : OwnC P w K mg base CX0 "Lull" A.Lull 4 pm_Lull_init (spLullInit A)) (O__law_gap : Own P w K mg base CX0 "_law_gap" 2 pm__law_gap (spLawGap K)) (O__law_limit_right : Own P w K mg base CX0 "_law_limit_right" 9 pm__law_limit_right (spLimitRight A))
    (O__law_told : Own P w K mg base CX0 "_law_told" 8 pm__law_told (spTold A fG fF)) : FnOk P w K mg base CX0 10 f fd pm_law (spLaw K) := by
  refine F.ok sc_law (fun vs H Q E h => ?_) (fun cdv A' outer sh H vs Q E hr h => ?_)
  · obtain ⟨_, _, rfl, _⟩ := h
    rfl
  · obtain ⟨sc, ns, rfl, hS, hlen, k⟩ := h
    refine ⟨_, pss_cons (ps_set (i := 1) sc_law.nd rfl (Or.inl rfl) (pe_own O__law_pool (hr.mono (by decide)) pass0 (pa_cons (pv 0) (pa_cons (pe_int) pa_nil))))
      (pss_cons (ps_set (i := 2) sc_law.nd rfl (Or.inr rfl) (pe_own O__law_lull (hr.mono (by decide)) pass0 (pa_cons (pv 1) pa_nil)))
      (pss_cons (ps_set (i := 3) sc_law.nd rfl (Or.inl rfl) (pe_new O_Lull (hr.mono (by decide)) pass0 (pa_cons (pe_ix ix_list (pv 2) (pe_int) (fun _ _ => rfl)) (pa_cons (pe_ix ix_list (pv 2) (pe_int) (fun _ _ => rfl)) (pa_cons (pe_ix ix_list (pv 2) (pe_int) (fun _ _ => rfl)) (pa_cons (pe_ix ix_list (pv 2) (pe_int) (fun _ _ => rfl)) pa_nil))))))
      (pss_cons (ps_set (i := 4) sc_law.nd rfl (Or.inl rfl) (pe_op op_cat (pe_lst (pa_cons (pe_int) pa_nil)) (pe_lc (own := [("_law_period", 8)]) (g := gName 8) (by rfl) sc_law.nd (pi_range2 rfl T.n_range (pa_cons (pe_int) (pa_cons (pe_int) pa_nil))) (blkOk_by (own := [("_law_period", 8)]) (N := nm_law) (sc := defScope s_law) (by decide +kernel)) (fun _ _ _ _ _ => pg_name (i := 8) sc_law.nd rfl (Or.inl rfl)) (fun s1 H1 C1 cl fp => pts_nil) (fun s1 H1 C1 cl fp => pe_own O__law_gap (hr.mono (by decide)) pass0 (pa_cons (pv 2) (pa_cons (pe_listRg3 rfl (by rfl) T.n_list (prg_3 (by rfl) T.n_range (pa_cons (pv 8) (pa_cons (pe_ix (ix_listK (K := K) rfl) (pv 2) (pe_int) (fun _ _ => rfl)) (pa_cons (pv 8) pa_nil))))) pa_nil))))))
      (pss_cons (ps_set (i := 5) sc_law.nd rfl (Or.inl rfl) (pe_own O__law_one (hr.mono (by decide)) pass0 (pa_cons (pv 1) (pa_cons (pe_slice sl_list (pv 4) (po_some (pe_int)) (po_some (pe_int))) pa_nil))))
      (pss_cons (ps_for PassesOwn.never rfl (pi_list (pe_lst (pa_cons (pe_op op_sub (pv 5) (pe_own O__law_take (hr.mono (by decide)) pass0 (pa_cons (pv 1) (pa_cons (pe_int) pa_nil)))) (pa_cons (pe_op op_add (pe_int) (pe_own O__law_take (hr.mono (by decide)) pass0 (pa_cons (pv 1) (pa_cons (pe_int) pa_nil)))) pa_nil)))) (pg_name (i := 6) sc_law.nd rfl (Or.inl rfl)) (pss_one (ps_if (PW.pt (pw_and (pt_cmpR op_gt (pv 6) (pe_int) (nomark _)) (pw_and1 (pt_not (pt_val (pe_own O__law_limit_right (hr.mono (by decide)) pass0 (pa_cons (pv 2) (pa_cons (pv 3) (pa_cons (pv 4) (pa_cons (pv 6) pa_nil)))))))))) (pss_one (ps_ret (pe_bl))) (pss_nil))))
      (pss_cons (ps_for PassesOwn.never rfl (pi_list (pe_lst (pa_cons (pe_int) (pa_cons (pe_un un_neg (pe_int)) (pa_cons (pe_int) (pa_cons (pe_bl) (pa_cons (pe_non) (pa_cons (pe_str) pa_nil)))))))) (pg_name (i := 7) sc_law.nd rfl (Or.inl rfl)) (pss_one (ps_if (pt_cmpR (op_neD hr.units) (pe_own O__law_told (hr.mono (by decide)) pass0 (pa_cons (pe_own O__law_one (hr.mono (by decide)) pass0 (pa_cons (pv 1) (pa_cons (pe_lst (pa_cons (pe_gcls hG) (pa_cons (pe_gcls hF) pa_nil))) pa_nil))) (pa_cons (pv 3) (pa_cons (pv 7) pa_nil)))) (pe_lst (pa_cons (pe_str) (pa_cons (pv 7) pa_nil))) (nomark _)) (pss_one (ps_ret (pe_bl))) (pss_nil))))
      (pss_one (ps_ret (pe_bl))))))))), ?_⟩
    refine ⟨_, rfl, sc, ns, 0, rfl, hS, hlen, by omega, fun st H1 e1 hst0 st1 => ?_⟩
    refine ⟨_, rfl, st, rfl, st1, fun pl d t L z H6 hp6 Z z24 npl st6 x6 => ?_⟩
    have hz1 := Z.z1
    refine ⟨_, rfl, pl, _, 0, .int d, rfl, rfl, SqL.of hp6, rfl, _, rfl, pl, _, 1, .int t, rfl, rfl, SqL.of hp6, rfl, _, rfl, pl, _, 2, .int (L : Int), rfl, rfl, SqL.of hp6, rfl, _, rfl, pl, _, 3, .int z, rfl, rfl, SqL.of hp6, rfl, fun x0 dx hx0 hdx hne => ?_⟩
    have e7' := (Ext.upd (o := .own x0) hdx).upd' (o := .ins A.Lull dx []) (by rw [upd_ne hne.symm]; exact hx0)
    refine ⟨x0, dx, d, t, L, z, rfl, upd_same, Z, fun H7 hl7 hB => ⟨rfl, ?_⟩⟩
    have e67 : Ext H6 H7 := fun a u h => hB a u (ne_of_none h hx0) (e7' a u h)
    have nx0 := st6.new hx0
    have st7 := st6.ext e67
    have hp7 : PlainAt H7 pl d t (L : Int) z := e67 _ _ hp6
    -- the gaps
    refine ⟨by show 1 ≤ sizeLine; decide, fun g0 hg0 => ?_⟩
    have e8 := Ext.upd (o := .lst [.int 0]) hg0
    have hp8 : PlainAt _ pl d t (L : Int) z := e8 _ _ hp7
    have hg08 : upd H7 g0 (.lst [.int 0]) g0 = some (.lst [.int 0]) := upd_same
    have st8 := st7.ext e8
    generalize upd H7 g0 (.lst [.int 0]) = H8 at e8 hp8 hg08 st8 ⊢
    refine ⟨1, 201, rfl, ⟨by decide, by decide, by decide, by decide⟩, lc_rgR (n := 200) (b := fun _ => true) (f := fun i => .int (gapV d t L z (sgn z (1 + (i : Int))))) (small_sz (by omega)) (fun x => rfl) (fun i hi H' e' Q' q' => q' _ Ext.rfl') (fun i hi _ H' e' Q' q' => ?_) (fun D H9 hD e9 hl9 => ?_)⟩
    · have hp' : PlainAt H' pl d t (L : Int) z := e' _ _ hp8
      refine ⟨_, rfl, _, rfl, _, rfl, pl, _, 3, .int z, rfl, rfl, SqL.of hp', rfl, _, rfl, 1 + (i : Int), z, 1 + (i : Int), rfl, by omega, ⟨by omega, by have := Z.z2; omega, by omega, by have := Z.z2; omega, by omega⟩, _, rg_sgn (by omega) (by omega) hz1 Z.z2, ?_, fun q hq => ?_⟩
      · rw [← sgn_len]
        exact Nat.le_trans (sgn_short (by omega) hz1 Z.z2) (by decide)
      · rw [rgC_sgn]
        have eq := Ext.upd (o := .lst ((sgn z (1 + (i : Int))).map V.int)) hq
        refine ⟨pl, q, d, t, L, z, sgn z (1 + (i : Int)), rfl, eq _ _ hp', Z, .inl (SqL.of upd_same), Nat.le_trans (sgn_short (by omega) hz1 Z.z2) (by decide), fun m H2 e2 hg => ?_⟩
        rw [gap_one hg gapV_ok]
        exact q' _ (eq.trans e2)
    · rw [L2.filter_all] at hl9
      refine ⟨g0, D, _, _, rfl, rfl, e9 _ _ hg08, hl9, Nat.le_trans (show _ ≤ 300 by simp) (by decide), fun gp hgp => ?_⟩
      have eA := Ext.upd (o := .lst ([V.int 0] ++ (List.range 200).map fun (i : Nat) => V.int (gapV d t L z (sgn z (1 + (i : Int)))))) hgp
      have stA := (st8.ext e9).ext eA
      have ngp := (st8.ext e9).new hgp
      have e7A := (e8.trans e9).trans eA
      have hgA : GapsAt (upd H9 gp (.lst ([V.int 0] ++ (List.range 200).map fun (i : Nat) => V.int (gapV d t L z (sgn z (1 + (i : Int))))))) gp d t L z := ⟨_, upd_same, by simp, fun i hi => by
        rw [List.getElem?_append_right (by simp), List.getElem?_map, show 1 + i - [V.int 0].length = i by simp, List.getElem?_range hi]
        rfl⟩
      have hlA := hl7.ext e7A
      have hpA : PlainAt _ pl d t (L : Int) z := e7A _ _ hp7
      have hgl : upd H9 gp (.lst ([V.int 0] ++ (List.range 200).map fun (i : Nat) => V.int (gapV d t L z (sgn z (1 + (i : Int)))))) gp = some (.lst ([V.int 0] ++ (List.range 200).map fun (i : Nat) => V.int (gapV d t L z (sgn z (1 + (i : Int)))))) := upd_same
      generalize upd H9 gp _ = HA at stA e7A hgA hlA hpA hgl ⊢
      refine ⟨_, rfl, _, rfl, _, rfl, _, rfl, gp, _, rfl, SqL.of hgl, fun c hc => ?_⟩
      have hcut : cutV ([V.int 0] ++ (List.range 200).map fun (i : Nat) => V.int (gapV d t L z (sgn z (1 + (i : Int))))) (some 1) (some 25) = ((List.range 200).map fun (i : Nat) => V.int (gapV d t L z (sgn z (1 + (i : Int))))).take 24 := by
        unfold cutV
        rw [show (some (1 : Int)) = some ((1 : Nat) : Int) from rfl, show (some (25 : Int)) = some ((25 : Nat) : Int) from rfl, HT.sIx_nat, HT.sIx_nat]
        simp
      rw [hcut]
      have eC := Ext.upd (o := .lst (((List.range 200).map fun (i : Nat) => V.int (gapV d t L z (sgn z (1 + (i : Int))))).take 24)) hc
      have stC := stA.ext eC
      have ncs := stA.new hc
      refine ⟨st, c, _, rfl, stC, upd_same, ncs, by simp, by simp, fun iv v HB hv stB xB => ?_⟩
      obtain ⟨sm, rfl, hsm⟩ : ∃ sm : Int, v = .int sm ∧ sm ≤ 1000 := by
        have hm := List.mem_of_mem_take (List.mem_of_getElem? hv)
        obtain ⟨i, hi, rfl⟩ := List.mem_map.mp hm
        have hi' := List.mem_range.mp hi
        refine ⟨_, rfl, ?_⟩
        have h1 := gap_le (okOf Z) (sgn_rise (p := 1 + (i : Int)) (by omega) hz1) (gapV_ok (d := d) (t := t) (L := L) (z := z))
        have h2 : (L : Int) * t ≤ 3 * 200 := Int.mul_le_mul Z.l2 Z.t2 (by have := Z.t1; have := Z.d1; omega) (by decide)
        have := Z.d2
        omega
      refine ⟨_, rfl, _, rfl, st, 2, rfl, stB, by decide, by decide, fun n5 HC n50 n52 stC2 xC => ⟨_, _, rfl, rfl, _, rfl, st, 90, rfl, stC2, by decide, by decide, fun n6 HD n60 n690 stD xD => ⟨_, _, rfl, rfl, by show 2 ≤ sizeLine; decide, fun l hl => ?_⟩⟩⟩
      have xAD : ExtM st HA HD := (((Ext.m eC).trans xB).trans xC).trans xD
      have eL := Ext.upd (o := .lst [.int (sm - n5), .int (1 + n6)]) hl
      have stL' := stD.ext eL
      have hlL : LullAt A (upd HD l (.lst [.int (sm - n5), .int (1 + n6)])) x0 d t (L : Int) z := by
        obtain ⟨dy, hy⟩ := hlA
        exact ⟨dy, eL _ _ (xAD _ _ nx0 hy)⟩
      have hpL : PlainAt (upd HD l (.lst [.int (sm - n5), .int (1 + n6)])) pl d t (L : Int) z := eL _ _ (xAD _ _ npl hpA)
      have hgL : GapsAt (upd HD l (.lst [.int (sm - n5), .int (1 + n6)])) gp d t L z := by
        obtain ⟨gs, q1, q2⟩ := hgA
        exact ⟨gs, eL _ _ (xAD _ _ ngp q1), q2⟩
      have hls : ∀ x ∈ [V.int (sm - n5), .int (1 + n6)], ∃ lim : Int, x = .int lim ∧ lim ≤ 20000 := fun x hx => by
        simp only [List.mem_cons, List.not_mem_nil, or_false] at hx
        rcases hx with rfl | rfl <;> exact ⟨_, rfl, by omega⟩
      have hlS : SqL K (upd HD l (.lst [.int (sm - n5), .int (1 + n6)])) l [.int (sm - n5), .int (1 + n6)] := SqL.of upd_same
      generalize upd HD l _ = HL at hlL hpL hgL hlS stL' ⊢
      refine ⟨l, rfl, ⟨_, hlS⟩, ?_⟩
      refine for_list (xs := [.int (sm - n5), .int (1 + n6)]) (fun i σ' H' => ∃ o5 o6 o7 : Option V, σ' = [some (.ref sc), some (.ref st), some (.ref pl), some (.ref x0), some (.ref gp), o5, o6, o7, Option.none] ∧ Ext HL H') ⟨_, _, _, rfl, Ext.rfl'⟩ (fun i σ' H' _ pv => ?_) (fun i x σ' H' hx pv => ?_) (fun σ' H' pv => ?_)
      · obtain ⟨_, _, _, _, e⟩ := pv
        exact hlS.ext e
      · obtain ⟨o5, o6, o7, rfl, e⟩ := pv
        obtain ⟨lim, rfl, hlim⟩ := hls x (List.mem_of_getElem? hx)
        refine ⟨_, rfl, _, _, rfl, rfl, _, rfl, ?_⟩
        by_cases hpos : lim > 0
        · rw [decide_eq_true hpos]
          exact iteT ⟨_, rfl, _, rfl, _, rfl, _, rfl, pl, x0, gp, lim, d, t, L, z, rfl, e _ _ hpL, hlL.ext e, Z, hgL.ext e, by omega, hlim, fun H2 e2 => ⟨_, rfl, iteF ⟨_, _, _, rfl, e.trans e2⟩⟩⟩
        · rw [decide_eq_false hpos]
          exact iteF (iteF ⟨_, _, _, rfl, e⟩)
      · obtain ⟨o5, o6, o7, rfl, e⟩ := pv
        refine ⟨_, rfl, by show 6 ≤ sizeLine; decide, fun l2 hl2 => ?_⟩
        have eE := e.trans (Ext.upd (o := .lst [.int 0, .int (-1), .int 20001, .bl true, .non, .str "5"]) hl2)
        have hlE := hlL.ext eE
        have stE := stL'.ext eE
        have nl2 := (stL'.ext e).new hl2
        have hO : upd H' l2 (.lst [.int 0, .int (-1), .int 20001, .bl true, .non, .str "5"]) l2 = some (.lst [.int 0, .int (-1), .int 20001, .bl true, .non, .str "5"]) := upd_same
        generalize upd H' l2 _ = HE at hlE hO stE ⊢
        refine ⟨l2, rfl, ⟨_, SqL.of hO⟩, ?_⟩
        refine for_list (xs := [.int 0, .int (-1), .int 20001, .bl true, .non, .str "5"]) (fun i σ' H' => ∃ o2 o4 o5 o6 o7 : Option V, σ' = [some (.ref sc), some (.ref st), o2, some (.ref x0), o4, o5, o6, o7, Option.none] ∧ PoolD H' st ∧ ExtM st HE H') ⟨_, _, _, _, _, rfl, stE, ExtM.rfl'⟩ (fun i σ' H' _ pv => ?_) (fun i x σ' H' hx pv => ?_) (fun σ' H' pv => ?_)
        · obtain ⟨_, _, _, _, _, _, _, x⟩ := pv
          exact SqL.of (x _ _ nl2 hO)
        · obtain ⟨o2, o4, o5, o6, o7, rfl, stF, xF⟩ := pv
          obtain ⟨hb, ⟨kk, hkk⟩, hfl⟩ := odds x (List.mem_of_getElem? hx)
          refine ⟨_, rfl, by show 2 ≤ sizeLine; decide, fun lf hlf => ?_⟩
          have eF := Ext.upd (o := .lst [.ref fG, .ref fF]) hlf
          refine ⟨st, lf, [.ref fG, .ref fF], rfl, stF.ext eF, upd_same, stF.new hlf, by show 1 ≤ 2; decide, by show 2 ≤ 1000; decide, fun iv v H2 hv st2 x2 => ?_⟩
          obtain ⟨f', rfl, hf'⟩ : ∃ f', v = .ref f' ∧ (f' = fG ∨ f' = fF) := by
            have hm := List.mem_of_getElem? hv
            simp only [List.mem_cons, List.not_mem_nil, or_false] at hm
            rcases hm with rfl | rfl
            · exact ⟨_, rfl, .inl rfl⟩
            · exact ⟨_, rfl, .inr rfl⟩
          have xG := (xF.trans (Ext.m eF)).trans x2
          have hl2' : LullAt A H2 x0 d t (L : Int) z := by
            obtain ⟨dy, hy⟩ := hlE
            exact ⟨dy, xG _ _ nx0 hy⟩
          refine ⟨_, rfl, _, rfl, f', x0, x, kk, d, t, L, z, rfl, hf', hkk _, hl2', Z, hb, fun r H3 e3 hr3 => ?_⟩
          refine ⟨_, rfl, by show 2 ≤ sizeLine; decide, fun l3 hl3 => ?_⟩
          have ff : ∀ v ∈ [V.str "number", x], Fl v := fun v hv => by
            simp only [List.mem_cons, List.not_mem_nil, or_false] at hv
            rcases hv with rfl | rfl
            · show PySem.PyData.canLay0 (.str "number") = true
              decide +kernel
            · exact hfl
          refine neD_lst (vs := [.str "number", x]) (us := [.str "number", x]) (SqL.of (Ext.upd hl3 _ _ hr3)) (SqL.of upd_same) ff ff ⟨_, rfl, ?_⟩
          rw [eqv_same ff]
          exact iteF ⟨_, _, _, _, _, rfl, (st2.ext e3).ext (Ext.upd hl3), (xG.trans (Ext.m e3)).trans (Ext.m (Ext.upd hl3))⟩
        · obtain ⟨o2, o4, o5, o6, o7, rfl, stF, xF⟩ := pv
          exact k _
end
end K33

set_option Elab.async false
set_option maxRecDepth 100000
set_option maxHeartbeats 4000000
namespace K33
open PySem PySem.Spec PyProof.Rows L2
section
variable {P : Program} {w : World} {K : PySem.W.Frag} {mg : Str → Option Value} {base : Heap} {A : Ad}
theorem kit_ref {B C : Addr} {b : Bool} (i : PySem.W.isClsIn K C = true) (t : PySem.W.typeIn K (.ref C) = some (.type "type")) (s : PySem.W.subIn K (.ref B) (.ref C) = some b) (ss : PySem.W.subIn K (.ref B) (.ref B) = some true) : PySem.W.kitOne K (.ref B) (.ref C) = some b := by
  by_cases h : B = C
  · subst h
    rw [ss] at s
    cases s
    exact if_pos (beq_self_eq_true _)
  · have e : ((PySem.W.clsIn K C).isSome && PySem.W.typeIn K (.ref C) == some (.type "type")) = true := by
      have h1 : (PySem.W.clsIn K C).isSome = true := i
      rw [h1, t]
      rfl
    show (if (Value.ref B == Value.ref C) = true then some true else if ((PySem.W.clsIn K C).isSome && PySem.W.typeIn K (.ref C) == some (.type "type")) = true then PySem.W.subIn K (.ref B) (.ref C) else none) = some b
    rw [if_pos e]
    have hne : ¬ ((Value.ref B == Value.ref C) = true) := fun z => by
      have z' := eq_of_beq z
      injection z' with z'
      exact h z'
    rw [if_neg hne]
    exact s
theorem exm_ref {B C : Addr} {b : Bool} (x : PySem.W.subIn K (.ref C) (.type "BaseException") = some true) (i : PySem.W.isClsIn K C = true) (t : PySem.W.typeIn K (.ref C) = some (.type "type")) (s : PySem.W.subIn K (.ref B) (.ref C) = some b) : PySem.W.exmOne K (.ref B) (.ref C) = some b := by
  unfold PySem.W.exmOne PySem.W.kitCls
  have i' : (PySem.W.clsIn K C).isSome = true := i
  rw [x]
  dsimp only
  rw [i', t, s]
  rfl
theorem ve_one {W : Addr} : PySem.HandSPX.refsVE [.ref W, .type "ValueError", .type "Exception", .type "BaseException", .type "object"] = true := by
  show PySem.HandSPX.refsVE [.type "ValueError", .type "Exception", .type "BaseException", .type "object"] = true
  decide +kernel
theorem law_ok (T : Txt K mg A) (D_is_integer : DefAt K mg "is_integer" s_is_integer pm_is_integer) (D_is_between : DefAt K mg "is_between" s_is_between pm_is_between) (D_check_lull : DefAt K mg "check_lull" s_check_lull pm_check_lull) (D_check_quiet : DefAt K mg "check_quiet" s_check_quiet pm_check_quiet) (D_is_sign_behind : DefAt K mg "is_sign_behind" s_is_sign_behind pm_is_sign_behind) (D_are_signs : DefAt K mg "are_signs" s_are_signs pm_are_signs) (D_stops_of : DefAt K mg "stops_of" s_stops_of pm_stops_of) (D_widest : DefAt K mg "widest" s_widest pm_widest) (D_signs_each : DefAt K mg "signs_each" s_signs_each pm_signs_each) (D_check_limit : DefAt K mg "check_limit" s_check_limit pm_check_limit) (D_signs_do : DefAt K mg "signs_do" s_signs_do pm_signs_do) (D_periods_that_do : DefAt K mg "periods_that_do" s_periods_that_do pm_periods_that_do) (D_good_periods : DefAt K mg "good_periods" s_good_periods pm_good_periods) (D_fewest_signs : DefAt K mg "fewest_signs" s_fewest_signs pm_fewest_signs) (D__law_pool : DefAt K mg "_law_pool" s__law_pool pm__law_pool) (D__law_take : DefAt K mg "_law_take" s__law_take pm__law_take) (D__law_one : DefAt K mg "_law_one" s__law_one pm__law_one) (D__law_lull : DefAt K mg "_law_lull" s__law_lull pm__law_lull) (D__law_stops : DefAt K mg "_law_stops" s__law_stops pm__law_stops) (D__law_gap : DefAt K mg "_law_gap" s__law_gap pm__law_gap) (D__law_told : DefAt K mg "_law_told" s__law_told pm__law_told) (D__law_spans : DefAt K mg "_law_spans" s__law_spans pm__law_spans) (D__law_limit_right : DefAt K mg "_law_limit_right" s__law_limit_right pm__law_limit_right)
    (M_Lull_init : MethAt K A.Lull "__init__" "Lull.__init__" s_Lull_init pm_Lull_init) (m1_Lull : PySem.W.makesIn K A.Lull = true) (m2_Lull : PySem.W.keepIn K (.ref A.Lull) = true)
    {f : Addr} {fd : FuncData} (F : Fun K "law" "law" s_law f fd) : FnOk P w K mg base CX0 10 f fd pm_law (spLaw K) := by
  have X_BadNumber : XCls P w K mg base "BadNumber" "number" A.BadNumber := T.BadNumber.cls fun _ _ F => ok_xn F T

  have O1 : Own P w K mg base CX0 "is_integer" 1 pm_is_integer spInteger := D_is_integer.own fun f fd F => ok_integer F T
  have O2 : Own P w K mg base CX0 "is_between" 2 pm_is_between spBetween := D_is_between.own fun f fd F => ok_between F O1
  have O3 : Own P w K mg base CX0 "check_lull" 3 pm_check_lull spCheckLull := D_check_lull.own fun f fd F => ok_checkLull F T O2
  have O4 : Own P w K mg base CX0 "check_quiet" 3 pm_check_quiet spCheckQuiet := D_check_quiet.own fun f fd F => ok_checkQuiet F T O2
  have OL : OwnC P w K mg base CX0 "Lull" A.Lull 4 pm_Lull_init (spLullInit A) := M_Lull_init.cls (fun f fd F => ok_lullInit F T O2 O3 O4) m1_Lull m2_Lull T.Lull.gC
  have O5 : Own P w K mg base CX0 "is_sign_behind" 3 pm_is_sign_behind (spSign A) := D_is_sign_behind.own fun f fd F => ok_sign F T O2
  have O6 : Own P w K mg base CX0 "are_signs" 4 pm_are_signs (spAre A) := D_are_signs.own fun f fd F => ok_are F T O5
  have O7 : Own P w K mg base CX0 "stops_of" 1 pm_stops_of (spStopsOf K A) := D_stops_of.own fun f fd F => ok_stopsOf F T
  have O8 : Own P w K mg base CX0 "widest" 1 pm_widest (spWidest A) := D_widest.own fun f fd F => ok_widest F T
  have O9 : Own P w K mg base CX0 "signs_do" 5 pm_signs_do (spDo A) := D_signs_do.own fun f fd F => ok_do F T O6 O7 O8
  have O10 : Own P w K mg base CX0 "signs_each" 1 pm_signs_each (spEach A) := D_signs_each.own fun f fd F => ok_each F T
  have O11 : Own P w K mg base CX0 "periods_that_do" 6 pm_periods_that_do (spGood A) := D_periods_that_do.own fun f fd F => ok_good F T O10 O9
  have O12 : Own P w K mg base (L2.CX P w) "check_limit" 4 pm_check_limit (spLimit A) := D_check_limit.own fun f fd F => ok_limit F T O2 X_BadNumber
  have OG : Own P w K mg base (L2.CX P w) "good_periods" 7 pm_good_periods (spGoodPeriods A) := D_good_periods.own fun f fd F => ok_goodPeriods F T O12 O11
  have OF : Own P w K mg base (L2.CX P w) "fewest_signs" 7 pm_fewest_signs (spFewest A) := D_fewest_signs.own fun f fd F => ok_fewest F T O12 O11 O10
  have O17 : Own P w K mg base CX0 "_law_pool" 1 pm__law_pool (spPool K) := D__law_pool.own fun f fd F => ok_pool F T
  have O18 : Own P w K mg base CX0 "_law_take" 1 pm__law_take spTake := D__law_take.own fun f fd F => ok_take F T
  have O19 : Own P w K mg base CX0 "_law_one" 2 pm__law_one spOne := D__law_one.own fun f fd F => ok_one F T O18
  have O20 : Own P w K mg base CX0 "_law_stops" 1 pm__law_stops (spLawStops K) := D__law_stops.own fun f fd F => ok_lawStops F T
  have O21 : Own P w K mg base CX0 "_law_gap" 2 pm__law_gap (spLawGap K) := D__law_gap.own fun f fd F => ok_lawGap F T O20
  have O22 : Own P w K mg base CX0 "_law_lull" 2 pm__law_lull spLawLull := D__law_lull.own fun f fd F => ok_lawLull F O18
  have O23 : Own P w K mg base CX0 "_law_spans" 1 pm__law_spans spSpans := D__law_spans.own fun f fd F => ok_spans F T
  have O24 : Own P w K mg base CX0 "_law_limit_right" 9 pm__law_limit_right (spLimitRight A) := D__law_limit_right.own fun f fd F => ok_limitRight F T OG OF O23
  obtain ⟨fG, hG, OAG⟩ := OG.at_
  obtain ⟨fF, hF, OAF⟩ := OF.at_
  have O25 : Own P w K mg base CX0 "_law_told" 8 pm__law_told (spTold A fG fF) := D__law_told.own fun f fd F => ok_told F T OAG OAF
  exact ok_law F T hG hF O17 O18 O19 O22 OL O21 O24 O25
end
theorem all_mk {P : Program} {w : World} {K : PySem.W.Frag} {h : Heap} {mg : Str → Option Value} {fa   ABadNumber AWholeError ALull f_is_integer f_is_between f_check_lull f_check_quiet f_is_sign_behind f_are_signs f_stops_of f_widest f_signs_each f_check_limit f_signs_do f_periods_that_do f_good_periods f_fewest_signs f__law_pool f__law_take f__law_one f__law_lull f__law_stops f__law_gap f__law_told f__law_spans f__law_limit_right f_law f_BadNumber_init f_Lull_init : Addr} (X : K.In h) (G : h.Ns mainGlobals mg) (hfa : mg "law" = some (.ref fa))
    {od_is_integer an_is_integer od_is_between an_is_between od_check_lull an_check_lull od_check_quiet an_check_quiet od_is_sign_behind an_is_sign_behind od_are_signs an_are_signs od_stops_of an_stops_of od_widest an_widest od_signs_each an_signs_each od_check_limit an_check_limit od_signs_do an_signs_do od_periods_that_do an_periods_that_do od_good_periods an_good_periods od_fewest_signs an_fewest_signs od__law_pool an__law_pool od__law_take an__law_take od__law_one an__law_one od__law_lull an__law_lull od__law_stops an__law_stops od__law_gap an__law_gap od__law_told an__law_told od__law_spans an__law_spans od__law_limit_right an__law_limit_right od_law an_law od_BadNumber_init an_BadNumber_init od_Lull_init an_Lull_init : Option Addr} {sl_is_integer sl_is_between sl_check_lull sl_check_quiet sl_is_sign_behind sl_are_signs sl_stops_of sl_widest sl_signs_each sl_check_limit sl_signs_do sl_periods_that_do sl_good_periods sl_fewest_signs sl__law_pool sl__law_take sl__law_one sl__law_lull sl__law_stops sl__law_gap sl__law_told sl__law_spans sl__law_limit_right sl_law sl_BadNumber_init sl_Lull_init : Array (Option Value)} {oc_is_integer kV_is_integer dc_is_integer pm_is_integer_ cd_is_integer ct_is_integer oc_is_between kV_is_between dc_is_between pm_is_between_ cd_is_between ct_is_between oc_check_lull kV_check_lull dc_check_lull pm_check_lull_ cd_check_lull ct_check_lull oc_check_quiet kV_check_quiet dc_check_quiet pm_check_quiet_ cd_check_quiet ct_check_quiet oc_is_sign_behind kV_is_sign_behind dc_is_sign_behind pm_is_sign_behind_ cd_is_sign_behind ct_is_sign_behind oc_are_signs kV_are_signs dc_are_signs pm_are_signs_ cd_are_signs ct_are_signs oc_stops_of kV_stops_of dc_stops_of pm_stops_of_ cd_stops_of ct_stops_of oc_widest kV_widest dc_widest pm_widest_ cd_widest ct_widest oc_signs_each kV_signs_each dc_signs_each pm_signs_each_ cd_signs_each ct_signs_each oc_check_limit kV_check_limit dc_check_limit pm_check_limit_ cd_check_limit ct_check_limit oc_signs_do kV_signs_do dc_signs_do pm_signs_do_ cd_signs_do ct_signs_do oc_periods_that_do kV_periods_that_do dc_periods_that_do pm_periods_that_do_ cd_periods_that_do ct_periods_that_do oc_good_periods kV_good_periods dc_good_periods pm_good_periods_ cd_good_periods ct_good_periods oc_fewest_signs kV_fewest_signs dc_fewest_signs pm_fewest_signs_ cd_fewest_signs ct_fewest_signs oc__law_pool kV__law_pool dc__law_pool pm__law_pool_ cd__law_pool ct__law_pool oc__law_take kV__law_take dc__law_take pm__law_take_ cd__law_take ct__law_take oc__law_one kV__law_one dc__law_one pm__law_one_ cd__law_one ct__law_one oc__law_lull kV__law_lull dc__law_lull pm__law_lull_ cd__law_lull ct__law_lull oc__law_stops kV__law_stops dc__law_stops pm__law_stops_ cd__law_stops ct__law_stops oc__law_gap kV__law_gap dc__law_gap pm__law_gap_ cd__law_gap ct__law_gap oc__law_told kV__law_told dc__law_told pm__law_told_ cd__law_told ct__law_told oc__law_spans kV__law_spans dc__law_spans pm__law_spans_ cd__law_spans ct__law_spans oc__law_limit_right kV__law_limit_right dc__law_limit_right pm__law_limit_right_ cd__law_limit_right ct__law_limit_right oc_law kV_law dc_law pm_law_ cd_law ct_law oc_BadNumber_init kV_BadNumber_init dc_BadNumber_init pm_BadNumber_init_ cd_BadNumber_init ct_BadNumber_init oc_Lull_init kV_Lull_init dc_Lull_init pm_Lull_init_ cd_Lull_init ct_Lull_init : Value} {t_MOST_DELAY t_MOST_TURN t_MOST_QUIET t_MOST_LOST t_MOST_LIMIT t_MOST_PERIOD : Tok}
    {xBadNumber_nm xBadNumber_q : Str} {xBadNumber_N : Addr} {xBadNumber_bs : List Value} {xBadNumber_sn : List Str} {xBadNumber_sub : List Value} {xBadNumber_ab : Bool} {xBadNumber_col : Option Bool} {xBadNumber_dd : Option Addr} {xBadNumber_m0 xBadNumber_m1 xBadNumber_m2 xBadNumber_m3 xBadNumber_m5 : Option Value}
    (g_BadNumber : PySem.W.nsIn K mainGlobals "BadNumber" = some (some (.ref ABadNumber)))
    (g_WholeError : PySem.W.nsIn K mainGlobals "WholeError" = some (some (.ref AWholeError)))
    (g_Lull : PySem.W.nsIn K mainGlobals "Lull" = some (some (.ref ALull)))
    (a_is_integer : PySem.W.nsIn K mainGlobals "is_integer" = some (some (.ref f_is_integer)))
    (l_is_integer : K.lookup f_is_integer = some ⟨oc_is_integer, od_is_integer, .func (PySem.W.fnOf "is_integer" "is_integer" (defArgs s_is_integer) (defBody s_is_integer) (defScope s_is_integer) .none kV_is_integer dc_is_integer pm_is_integer_ an_is_integer cd_is_integer ct_is_integer), sl_is_integer⟩)
    (c_is_integer : PySem.W.codeIn K cd_is_integer "is_integer" = true)
    (k_is_integer : PySem.W.keepIn K (.ref f_is_integer) = true)
    (a_is_between : PySem.W.nsIn K mainGlobals "is_between" = some (some (.ref f_is_between)))
    (l_is_between : K.lookup f_is_between = some ⟨oc_is_between, od_is_between, .func (PySem.W.fnOf "is_between" "is_between" (defArgs s_is_between) (defBody s_is_between) (defScope s_is_between) .none kV_is_between dc_is_between pm_is_between_ an_is_between cd_is_between ct_is_between), sl_is_between⟩)
    (c_is_between : PySem.W.codeIn K cd_is_between "is_between" = true)
    (k_is_between : PySem.W.keepIn K (.ref f_is_between) = true)
    (a_check_lull : PySem.W.nsIn K mainGlobals "check_lull" = some (some (.ref f_check_lull)))
    (l_check_lull : K.lookup f_check_lull = some ⟨oc_check_lull, od_check_lull, .func (PySem.W.fnOf "check_lull" "check_lull" (defArgs s_check_lull) (defBody s_check_lull) (defScope s_check_lull) .none kV_check_lull dc_check_lull pm_check_lull_ an_check_lull cd_check_lull ct_check_lull), sl_check_lull⟩)
    (c_check_lull : PySem.W.codeIn K cd_check_lull "check_lull" = true)
    (k_check_lull : PySem.W.keepIn K (.ref f_check_lull) = true)
    (a_check_quiet : PySem.W.nsIn K mainGlobals "check_quiet" = some (some (.ref f_check_quiet)))
    (l_check_quiet : K.lookup f_check_quiet = some ⟨oc_check_quiet, od_check_quiet, .func (PySem.W.fnOf "check_quiet" "check_quiet" (defArgs s_check_quiet) (defBody s_check_quiet) (defScope s_check_quiet) .none kV_check_quiet dc_check_quiet pm_check_quiet_ an_check_quiet cd_check_quiet ct_check_quiet), sl_check_quiet⟩)
    (c_check_quiet : PySem.W.codeIn K cd_check_quiet "check_quiet" = true)
    (k_check_quiet : PySem.W.keepIn K (.ref f_check_quiet) = true)
    (a_is_sign_behind : PySem.W.nsIn K mainGlobals "is_sign_behind" = some (some (.ref f_is_sign_behind)))
    (l_is_sign_behind : K.lookup f_is_sign_behind = some ⟨oc_is_sign_behind, od_is_sign_behind, .func (PySem.W.fnOf "is_sign_behind" "is_sign_behind" (defArgs s_is_sign_behind) (defBody s_is_sign_behind) (defScope s_is_sign_behind) .none kV_is_sign_behind dc_is_sign_behind pm_is_sign_behind_ an_is_sign_behind cd_is_sign_behind ct_is_sign_behind), sl_is_sign_behind⟩)
    (c_is_sign_behind : PySem.W.codeIn K cd_is_sign_behind "is_sign_behind" = true)
    (k_is_sign_behind : PySem.W.keepIn K (.ref f_is_sign_behind) = true)
    (a_are_signs : PySem.W.nsIn K mainGlobals "are_signs" = some (some (.ref f_are_signs)))
    (l_are_signs : K.lookup f_are_signs = some ⟨oc_are_signs, od_are_signs, .func (PySem.W.fnOf "are_signs" "are_signs" (defArgs s_are_signs) (defBody s_are_signs) (defScope s_are_signs) .none kV_are_signs dc_are_signs pm_are_signs_ an_are_signs cd_are_signs ct_are_signs), sl_are_signs⟩)
    (c_are_signs : PySem.W.codeIn K cd_are_signs "are_signs" = true)
    (k_are_signs : PySem.W.keepIn K (.ref f_are_signs) = true)
    (a_stops_of : PySem.W.nsIn K mainGlobals "stops_of" = some (some (.ref f_stops_of)))
    (l_stops_of : K.lookup f_stops_of = some ⟨oc_stops_of, od_stops_of, .func (PySem.W.fnOf "stops_of" "stops_of" (defArgs s_stops_of) (defBody s_stops_of) (defScope s_stops_of) .none kV_stops_of dc_stops_of pm_stops_of_ an_stops_of cd_stops_of ct_stops_of), sl_stops_of⟩)
    (c_stops_of : PySem.W.codeIn K cd_stops_of "stops_of" = true)
    (k_stops_of : PySem.W.keepIn K (.ref f_stops_of) = true)
    (a_widest : PySem.W.nsIn K mainGlobals "widest" = some (some (.ref f_widest)))
    (l_widest : K.lookup f_widest = some ⟨oc_widest, od_widest, .func (PySem.W.fnOf "widest" "widest" (defArgs s_widest) (defBody s_widest) (defScope s_widest) .none kV_widest dc_widest pm_widest_ an_widest cd_widest ct_widest), sl_widest⟩)
    (c_widest : PySem.W.codeIn K cd_widest "widest" = true)
    (k_widest : PySem.W.keepIn K (.ref f_widest) = true)
    (a_signs_each : PySem.W.nsIn K mainGlobals "signs_each" = some (some (.ref f_signs_each)))
    (l_signs_each : K.lookup f_signs_each = some ⟨oc_signs_each, od_signs_each, .func (PySem.W.fnOf "signs_each" "signs_each" (defArgs s_signs_each) (defBody s_signs_each) (defScope s_signs_each) .none kV_signs_each dc_signs_each pm_signs_each_ an_signs_each cd_signs_each ct_signs_each), sl_signs_each⟩)
    (c_signs_each : PySem.W.codeIn K cd_signs_each "signs_each" = true)
    (k_signs_each : PySem.W.keepIn K (.ref f_signs_each) = true)
    (a_check_limit : PySem.W.nsIn K mainGlobals "check_limit" = some (some (.ref f_check_limit)))
    (l_check_limit : K.lookup f_check_limit = some ⟨oc_check_limit, od_check_limit, .func (PySem.W.fnOf "check_limit" "check_limit" (defArgs s_check_limit) (defBody s_check_limit) (defScope s_check_limit) .none kV_check_limit dc_check_limit pm_check_limit_ an_check_limit cd_check_limit ct_check_limit), sl_check_limit⟩)
    (c_check_limit : PySem.W.codeIn K cd_check_limit "check_limit" = true)
    (k_check_limit : PySem.W.keepIn K (.ref f_check_limit) = true)
    (a_signs_do : PySem.W.nsIn K mainGlobals "signs_do" = some (some (.ref f_signs_do)))
    (l_signs_do : K.lookup f_signs_do = some ⟨oc_signs_do, od_signs_do, .func (PySem.W.fnOf "signs_do" "signs_do" (defArgs s_signs_do) (defBody s_signs_do) (defScope s_signs_do) .none kV_signs_do dc_signs_do pm_signs_do_ an_signs_do cd_signs_do ct_signs_do), sl_signs_do⟩)
    (c_signs_do : PySem.W.codeIn K cd_signs_do "signs_do" = true)
    (k_signs_do : PySem.W.keepIn K (.ref f_signs_do) = true)
    (a_periods_that_do : PySem.W.nsIn K mainGlobals "periods_that_do" = some (some (.ref f_periods_that_do)))
    (l_periods_that_do : K.lookup f_periods_that_do = some ⟨oc_periods_that_do, od_periods_that_do, .func (PySem.W.fnOf "periods_that_do" "periods_that_do" (defArgs s_periods_that_do) (defBody s_periods_that_do) (defScope s_periods_that_do) .none kV_periods_that_do dc_periods_that_do pm_periods_that_do_ an_periods_that_do cd_periods_that_do ct_periods_that_do), sl_periods_that_do⟩)
    (c_periods_that_do : PySem.W.codeIn K cd_periods_that_do "periods_that_do" = true)
    (k_periods_that_do : PySem.W.keepIn K (.ref f_periods_that_do) = true)
    (a_good_periods : PySem.W.nsIn K mainGlobals "good_periods" = some (some (.ref f_good_periods)))
    (l_good_periods : K.lookup f_good_periods = some ⟨oc_good_periods, od_good_periods, .func (PySem.W.fnOf "good_periods" "good_periods" (defArgs s_good_periods) (defBody s_good_periods) (defScope s_good_periods) .none kV_good_periods dc_good_periods pm_good_periods_ an_good_periods cd_good_periods ct_good_periods), sl_good_periods⟩)
    (c_good_periods : PySem.W.codeIn K cd_good_periods "good_periods" = true)
    (k_good_periods : PySem.W.keepIn K (.ref f_good_periods) = true)
    (a_fewest_signs : PySem.W.nsIn K mainGlobals "fewest_signs" = some (some (.ref f_fewest_signs)))
    (l_fewest_signs : K.lookup f_fewest_signs = some ⟨oc_fewest_signs, od_fewest_signs, .func (PySem.W.fnOf "fewest_signs" "fewest_signs" (defArgs s_fewest_signs) (defBody s_fewest_signs) (defScope s_fewest_signs) .none kV_fewest_signs dc_fewest_signs pm_fewest_signs_ an_fewest_signs cd_fewest_signs ct_fewest_signs), sl_fewest_signs⟩)
    (c_fewest_signs : PySem.W.codeIn K cd_fewest_signs "fewest_signs" = true)
    (k_fewest_signs : PySem.W.keepIn K (.ref f_fewest_signs) = true)
    (a__law_pool : PySem.W.nsIn K mainGlobals "_law_pool" = some (some (.ref f__law_pool)))
    (l__law_pool : K.lookup f__law_pool = some ⟨oc__law_pool, od__law_pool, .func (PySem.W.fnOf "_law_pool" "_law_pool" (defArgs s__law_pool) (defBody s__law_pool) (defScope s__law_pool) .none kV__law_pool dc__law_pool pm__law_pool_ an__law_pool cd__law_pool ct__law_pool), sl__law_pool⟩)
    (c__law_pool : PySem.W.codeIn K cd__law_pool "_law_pool" = true)
    (k__law_pool : PySem.W.keepIn K (.ref f__law_pool) = true)
    (a__law_take : PySem.W.nsIn K mainGlobals "_law_take" = some (some (.ref f__law_take)))
    (l__law_take : K.lookup f__law_take = some ⟨oc__law_take, od__law_take, .func (PySem.W.fnOf "_law_take" "_law_take" (defArgs s__law_take) (defBody s__law_take) (defScope s__law_take) .none kV__law_take dc__law_take pm__law_take_ an__law_take cd__law_take ct__law_take), sl__law_take⟩)
    (c__law_take : PySem.W.codeIn K cd__law_take "_law_take" = true)
    (k__law_take : PySem.W.keepIn K (.ref f__law_take) = true)
    (a__law_one : PySem.W.nsIn K mainGlobals "_law_one" = some (some (.ref f__law_one)))
    (l__law_one : K.lookup f__law_one = some ⟨oc__law_one, od__law_one, .func (PySem.W.fnOf "_law_one" "_law_one" (defArgs s__law_one) (defBody s__law_one) (defScope s__law_one) .none kV__law_one dc__law_one pm__law_one_ an__law_one cd__law_one ct__law_one), sl__law_one⟩)
    (c__law_one : PySem.W.codeIn K cd__law_one "_law_one" = true)
    (k__law_one : PySem.W.keepIn K (.ref f__law_one) = true)
    (a__law_lull : PySem.W.nsIn K mainGlobals "_law_lull" = some (some (.ref f__law_lull)))
    (l__law_lull : K.lookup f__law_lull = some ⟨oc__law_lull, od__law_lull, .func (PySem.W.fnOf "_law_lull" "_law_lull" (defArgs s__law_lull) (defBody s__law_lull) (defScope s__law_lull) .none kV__law_lull dc__law_lull pm__law_lull_ an__law_lull cd__law_lull ct__law_lull), sl__law_lull⟩)
    (c__law_lull : PySem.W.codeIn K cd__law_lull "_law_lull" = true)
    (k__law_lull : PySem.W.keepIn K (.ref f__law_lull) = true)
    (a__law_stops : PySem.W.nsIn K mainGlobals "_law_stops" = some (some (.ref f__law_stops)))
    (l__law_stops : K.lookup f__law_stops = some ⟨oc__law_stops, od__law_stops, .func (PySem.W.fnOf "_law_stops" "_law_stops" (defArgs s__law_stops) (defBody s__law_stops) (defScope s__law_stops) .none kV__law_stops dc__law_stops pm__law_stops_ an__law_stops cd__law_stops ct__law_stops), sl__law_stops⟩)
    (c__law_stops : PySem.W.codeIn K cd__law_stops "_law_stops" = true)
    (k__law_stops : PySem.W.keepIn K (.ref f__law_stops) = true)
    (a__law_gap : PySem.W.nsIn K mainGlobals "_law_gap" = some (some (.ref f__law_gap)))
    (l__law_gap : K.lookup f__law_gap = some ⟨oc__law_gap, od__law_gap, .func (PySem.W.fnOf "_law_gap" "_law_gap" (defArgs s__law_gap) (defBody s__law_gap) (defScope s__law_gap) .none kV__law_gap dc__law_gap pm__law_gap_ an__law_gap cd__law_gap ct__law_gap), sl__law_gap⟩)
    (c__law_gap : PySem.W.codeIn K cd__law_gap "_law_gap" = true)
    (k__law_gap : PySem.W.keepIn K (.ref f__law_gap) = true)
    (a__law_told : PySem.W.nsIn K mainGlobals "_law_told" = some (some (.ref f__law_told)))
    (l__law_told : K.lookup f__law_told = some ⟨oc__law_told, od__law_told, .func (PySem.W.fnOf "_law_told" "_law_told" (defArgs s__law_told) (defBody s__law_told) (defScope s__law_told) .none kV__law_told dc__law_told pm__law_told_ an__law_told cd__law_told ct__law_told), sl__law_told⟩)
    (c__law_told : PySem.W.codeIn K cd__law_told "_law_told" = true)
    (k__law_told : PySem.W.keepIn K (.ref f__law_told) = true)
    (a__law_spans : PySem.W.nsIn K mainGlobals "_law_spans" = some (some (.ref f__law_spans)))
    (l__law_spans : K.lookup f__law_spans = some ⟨oc__law_spans, od__law_spans, .func (PySem.W.fnOf "_law_spans" "_law_spans" (defArgs s__law_spans) (defBody s__law_spans) (defScope s__law_spans) .none kV__law_spans dc__law_spans pm__law_spans_ an__law_spans cd__law_spans ct__law_spans), sl__law_spans⟩)
    (c__law_spans : PySem.W.codeIn K cd__law_spans "_law_spans" = true)
    (k__law_spans : PySem.W.keepIn K (.ref f__law_spans) = true)
    (a__law_limit_right : PySem.W.nsIn K mainGlobals "_law_limit_right" = some (some (.ref f__law_limit_right)))
    (l__law_limit_right : K.lookup f__law_limit_right = some ⟨oc__law_limit_right, od__law_limit_right, .func (PySem.W.fnOf "_law_limit_right" "_law_limit_right" (defArgs s__law_limit_right) (defBody s__law_limit_right) (defScope s__law_limit_right) .none kV__law_limit_right dc__law_limit_right pm__law_limit_right_ an__law_limit_right cd__law_limit_right ct__law_limit_right), sl__law_limit_right⟩)
    (c__law_limit_right : PySem.W.codeIn K cd__law_limit_right "_law_limit_right" = true)
    (k__law_limit_right : PySem.W.keepIn K (.ref f__law_limit_right) = true)
    (a_law : PySem.W.nsIn K mainGlobals "law" = some (some (.ref f_law)))
    (l_law : K.lookup f_law = some ⟨oc_law, od_law, .func (PySem.W.fnOf "law" "law" (defArgs s_law) (defBody s_law) (defScope s_law) .none kV_law dc_law pm_law_ an_law cd_law ct_law), sl_law⟩)
    (c_law : PySem.W.codeIn K cd_law "law" = true)
    (k_law : PySem.W.keepIn K (.ref f_law) = true)
    (a_BadNumber_init : PySem.W.findIn K (.ref ABadNumber) "__init__" = some (some (.ref f_BadNumber_init)))
    (i_BadNumber_init : PySem.W.typeIn K (.ref f_BadNumber_init) = some (.type "function"))
    (l_BadNumber_init : K.lookup f_BadNumber_init = some ⟨oc_BadNumber_init, od_BadNumber_init, .func (PySem.W.fnOf "__init__" "BadNumber.__init__" (defArgs s_BadNumber_init) (defBody s_BadNumber_init) (defScope s_BadNumber_init) .none kV_BadNumber_init dc_BadNumber_init pm_BadNumber_init_ an_BadNumber_init cd_BadNumber_init ct_BadNumber_init), sl_BadNumber_init⟩)
    (c_BadNumber_init : PySem.W.codeIn K cd_BadNumber_init "BadNumber.__init__" = true)
    (k_BadNumber_init : PySem.W.keepIn K (.ref f_BadNumber_init) = true)
    (a_Lull_init : PySem.W.findIn K (.ref ALull) "__init__" = some (some (.ref f_Lull_init)))
    (i_Lull_init : PySem.W.isFn K (.ref f_Lull_init) = true)
    (l_Lull_init : K.lookup f_Lull_init = some ⟨oc_Lull_init, od_Lull_init, .func (PySem.W.fnOf "__init__" "Lull.__init__" (defArgs s_Lull_init) (defBody s_Lull_init) (defScope s_Lull_init) .none kV_Lull_init dc_Lull_init pm_Lull_init_ an_Lull_init cd_Lull_init ct_Lull_init), sl_Lull_init⟩)
    (c_Lull_init : PySem.W.codeIn K cd_Lull_init "Lull.__init__" = true)
    (k_Lull_init : PySem.W.keepIn K (.ref f_Lull_init) = true)
    (n_isinstance : PySem.W.nsIn K mainGlobals "isinstance" = some none)
    (n_int : PySem.W.nsIn K mainGlobals "int" = some none)
    (n_bool : PySem.W.nsIn K mainGlobals "bool" = some none)
    (n_list : PySem.W.nsIn K mainGlobals "list" = some none)
    (n_tuple : PySem.W.nsIn K mainGlobals "tuple" = some none)
    (n_len : PySem.W.nsIn K mainGlobals "len" = some none)
    (n_range : PySem.W.nsIn K mainGlobals "range" = some none)
    (n_zip : PySem.W.nsIn K mainGlobals "zip" = some none)
    (n_max : PySem.W.nsIn K mainGlobals "max" = some none)
    (n_min : PySem.W.nsIn K mainGlobals "min" = some none)
    (v_MOST_DELAY : PySem.W.nsIn K mainGlobals "MOST_DELAY" = some (some (.int 50 t_MOST_DELAY)))
    (v_MOST_TURN : PySem.W.nsIn K mainGlobals "MOST_TURN" = some (some (.int 200 t_MOST_TURN)))
    (v_MOST_QUIET : PySem.W.nsIn K mainGlobals "MOST_QUIET" = some (some (.int 500 t_MOST_QUIET)))
    (v_MOST_LOST : PySem.W.nsIn K mainGlobals "MOST_LOST" = some (some (.int 3 t_MOST_LOST)))
    (v_MOST_LIMIT : PySem.W.nsIn K mainGlobals "MOST_LIMIT" = some (some (.int 20000 t_MOST_LIMIT)))
    (v_MOST_PERIOD : PySem.W.nsIn K mainGlobals "MOST_PERIOD" = some (some (.int 200 t_MOST_PERIOD)))
    (s_hn : PySem.W.specialIn K (.builtin "object.__class__") "__get__" = some (some (.builtin "getset_descriptor.__get__")))
    (s_tk : PySem.W.takesIn K (.builtin "object.__class__") = some true)
    (pg_Lull : PySem.W.plainGet K ALull Str.empty = true)
    (hd_Lull : PySem.W.hasDictIn K ALull = true)
    (po_Lull : PySem.W.plainOver K ALull = true)
    (sa_Lull : PySem.W.findIn K (.ref ALull) "__setattr__" = some (some (.builtin "object.__setattr__")))
    (ha_Lull : PySem.W.findIn K (.ref ALull) "__class__" = some (some (.builtin "object.__class__")))
    (hm_Lull : PySem.W.mroIn K ALull (.type "object") = some true)
    (ne_Lull : PySem.W.findIn K (.ref ALull) "__ne__" = some (some (.builtin "object.__ne__")))
    (is_Lull : PySem.W.isClsIn K ALull = true)
    (ty_Lull : PySem.W.typeIn K (.ref ALull) = some (.type "type"))
    (tup_Lull : PySem.W.subIn K (.ref ALull) (.type "tuple") = some false)
    (lst_Lull : PySem.W.subIn K (.ref ALull) (.type "list") = some false)
    (int_Lull : PySem.W.subIn K (.ref ALull) (.type "int") = some false)
    (str_Lull : PySem.W.subIn K (.ref ALull) (.type "str") = some false)
    (mk_Lull : PySem.W.makesIn K ALull = true)
    (kc_Lull : PySem.W.keepIn K (.ref ALull) = true)
    (na_Lull_delay : PySem.W.findIn K (.ref ALull) "delay" = some none)
    (na_Lull_turn : PySem.W.findIn K (.ref ALull) "turn" = some none)
    (na_Lull_losses : PySem.W.findIn K (.ref ALull) "losses" = some none)
    (na_Lull_quiet : PySem.W.findIn K (.ref ALull) "quiet" = some none)
    (xBadNumber_L : K.lookup ABadNumber = some (excClassObj xBadNumber_nm xBadNumber_q ABadNumber xBadNumber_N xBadNumber_bs [.ref AWholeError, .type "ValueError", .type "Exception", .type "BaseException", .type "object"] true xBadNumber_sn xBadNumber_sub xBadNumber_ab xBadNumber_col xBadNumber_dd xBadNumber_m0 xBadNumber_m1 xBadNumber_m2 xBadNumber_m3 xBadNumber_m5 "ValueError.__new__"))
    (xBadNumber_sa : PySem.W.findIn K (.ref ABadNumber) "__setattr__" = some (some (.builtin "object.__setattr__")))
    (xBadNumber_ex : PySem.W.subIn K (.ref ABadNumber) (.type "BaseException") = some true)
    (xBadNumber_ty : PySem.W.typeIn K (.ref ABadNumber) = some (.type "type"))
    (xBadNumber_kC : PySem.W.keepIn K (.ref ABadNumber) = true)
    (xBadNumber_noA : PySem.W.findIn K (.ref ABadNumber) "number" = some none)
    (xBadNumber_hg : PySem.W.findIn K (.ref ABadNumber) "__getattribute__" = some (some (.builtin "BaseException.__getattribute__")))
    (xBadNumber_hk : PySem.W.findIn K (.ref ABadNumber) "__getattr__" = some none)
    (xBadNumber_hd : PySem.W.hasDictIn K ABadNumber = true)
    (xBadNumber_ha : PySem.W.findIn K (.ref ABadNumber) "__class__" = some (some (.builtin "object.__class__")))
    (xBadNumber_hm : PySem.W.mroIn K ABadNumber (.type "object") = some true)
    (xBadNumber_is : PySem.W.isClsIn K ABadNumber = true)
    (xBadNumber_ss : PySem.W.subIn K (.ref ABadNumber) (.ref ABadNumber) = some true)
    (xBadNumber_w : PySem.W.subIn K (.ref ABadNumber) (.ref AWholeError) = some true)
    (xw_i : PySem.W.isClsIn K AWholeError = true)
    (xw_t : PySem.W.typeIn K (.ref AWholeError) = some (.type "type"))
    (xw_b : PySem.W.subIn K (.ref AWholeError) (.type "BaseException") = some true)
    : ∃ fd : FuncData, (∀ (s : Shared) (v : Value), BindsTo s fd ⟨[v], []⟩ [("_law_script", v)]) ∧ ∀ base : Heap, K.In base → base.Ns mainGlobals mg → FnOk P w K mg base CX0 10 fa fd ["_law_script"] (spLaw K) := by
  have e := hfa.symm.trans (PySem.W.mg_of X G a_law)
  cases e
  have F_is_integer := fun_mk (st := s_is_integer) l_is_integer c_is_integer k_is_integer
  have D_is_integer : DefAt K mg "is_integer" s_is_integer pm_is_integer := ⟨_, _, F_is_integer, PySem.W.mg_of X G a_is_integer, F_is_integer.binds (ps := pm_is_integer) fun _ _ _ _ _ _ us hl => match us, hl with | [_], _ => rfl⟩
  have F_is_between := fun_mk (st := s_is_between) l_is_between c_is_between k_is_between
  have D_is_between : DefAt K mg "is_between" s_is_between pm_is_between := ⟨_, _, F_is_between, PySem.W.mg_of X G a_is_between, F_is_between.binds (ps := pm_is_between) fun _ _ _ _ _ _ us hl => match us, hl with | [_, _, _], _ => rfl⟩
  have F_check_lull := fun_mk (st := s_check_lull) l_check_lull c_check_lull k_check_lull
  have D_check_lull : DefAt K mg "check_lull" s_check_lull pm_check_lull := ⟨_, _, F_check_lull, PySem.W.mg_of X G a_check_lull, F_check_lull.binds (ps := pm_check_lull) fun _ _ _ _ _ _ us hl => match us, hl with | [_, _, _], _ => rfl⟩
  have F_check_quiet := fun_mk (st := s_check_quiet) l_check_quiet c_check_quiet k_check_quiet
  have D_check_quiet : DefAt K mg "check_quiet" s_check_quiet pm_check_quiet := ⟨_, _, F_check_quiet, PySem.W.mg_of X G a_check_quiet, F_check_quiet.binds (ps := pm_check_quiet) fun _ _ _ _ _ _ us hl => match us, hl with | [_], _ => rfl⟩
  have F_is_sign_behind := fun_mk (st := s_is_sign_behind) l_is_sign_behind c_is_sign_behind k_is_sign_behind
  have D_is_sign_behind : DefAt K mg "is_sign_behind" s_is_sign_behind pm_is_sign_behind := ⟨_, _, F_is_sign_behind, PySem.W.mg_of X G a_is_sign_behind, F_is_sign_behind.binds (ps := pm_is_sign_behind) fun _ _ _ _ _ _ us hl => match us, hl with | [_, _, _], _ => rfl⟩
  have F_are_signs := fun_mk (st := s_are_signs) l_are_signs c_are_signs k_are_signs
  have D_are_signs : DefAt K mg "are_signs" s_are_signs pm_are_signs := ⟨_, _, F_are_signs, PySem.W.mg_of X G a_are_signs, F_are_signs.binds (ps := pm_are_signs) fun _ _ _ _ _ _ us hl => match us, hl with | [_, _], _ => rfl⟩
  have F_stops_of := fun_mk (st := s_stops_of) l_stops_of c_stops_of k_stops_of
  have D_stops_of : DefAt K mg "stops_of" s_stops_of pm_stops_of := ⟨_, _, F_stops_of, PySem.W.mg_of X G a_stops_of, F_stops_of.binds (ps := pm_stops_of) fun _ _ _ _ _ _ us hl => match us, hl with | [_, _], _ => rfl⟩
  have F_widest := fun_mk (st := s_widest) l_widest c_widest k_widest
  have D_widest : DefAt K mg "widest" s_widest pm_widest := ⟨_, _, F_widest, PySem.W.mg_of X G a_widest, F_widest.binds (ps := pm_widest) fun _ _ _ _ _ _ us hl => match us, hl with | [_, _], _ => rfl⟩
  have F_signs_each := fun_mk (st := s_signs_each) l_signs_each c_signs_each k_signs_each
  have D_signs_each : DefAt K mg "signs_each" s_signs_each pm_signs_each := ⟨_, _, F_signs_each, PySem.W.mg_of X G a_signs_each, F_signs_each.binds (ps := pm_signs_each) fun _ _ _ _ _ _ us hl => match us, hl with | [_, _], _ => rfl⟩
  have F_check_limit := fun_mk (st := s_check_limit) l_check_limit c_check_limit k_check_limit
  have D_check_limit : DefAt K mg "check_limit" s_check_limit pm_check_limit := ⟨_, _, F_check_limit, PySem.W.mg_of X G a_check_limit, F_check_limit.binds (ps := pm_check_limit) fun _ _ _ _ _ _ us hl => match us, hl with | [_], _ => rfl⟩
  have F_signs_do := fun_mk (st := s_signs_do) l_signs_do c_signs_do k_signs_do
  have D_signs_do : DefAt K mg "signs_do" s_signs_do pm_signs_do := ⟨_, _, F_signs_do, PySem.W.mg_of X G a_signs_do, F_signs_do.binds (ps := pm_signs_do) fun _ _ _ _ _ _ us hl => match us, hl with | [_, _, _], _ => rfl⟩
  have F_periods_that_do := fun_mk (st := s_periods_that_do) l_periods_that_do c_periods_that_do k_periods_that_do
  have D_periods_that_do : DefAt K mg "periods_that_do" s_periods_that_do pm_periods_that_do := ⟨_, _, F_periods_that_do, PySem.W.mg_of X G a_periods_that_do, F_periods_that_do.binds (ps := pm_periods_that_do) fun _ _ _ _ _ _ us hl => match us, hl with | [_, _], _ => rfl⟩
  have F_good_periods := fun_mk (st := s_good_periods) l_good_periods c_good_periods k_good_periods
  have D_good_periods : DefAt K mg "good_periods" s_good_periods pm_good_periods := ⟨_, _, F_good_periods, PySem.W.mg_of X G a_good_periods, F_good_periods.binds (ps := pm_good_periods) fun _ _ _ _ _ _ us hl => match us, hl with | [_, _], _ => rfl⟩
  have F_fewest_signs := fun_mk (st := s_fewest_signs) l_fewest_signs c_fewest_signs k_fewest_signs
  have D_fewest_signs : DefAt K mg "fewest_signs" s_fewest_signs pm_fewest_signs := ⟨_, _, F_fewest_signs, PySem.W.mg_of X G a_fewest_signs, F_fewest_signs.binds (ps := pm_fewest_signs) fun _ _ _ _ _ _ us hl => match us, hl with | [_, _], _ => rfl⟩
  have F__law_pool := fun_mk (st := s__law_pool) l__law_pool c__law_pool k__law_pool
  have D__law_pool : DefAt K mg "_law_pool" s__law_pool pm__law_pool := ⟨_, _, F__law_pool, PySem.W.mg_of X G a__law_pool, F__law_pool.binds (ps := pm__law_pool) fun _ _ _ _ _ _ us hl => match us, hl with | [_, _], _ => rfl⟩
  have F__law_take := fun_mk (st := s__law_take) l__law_take c__law_take k__law_take
  have D__law_take : DefAt K mg "_law_take" s__law_take pm__law_take := ⟨_, _, F__law_take, PySem.W.mg_of X G a__law_take, F__law_take.binds (ps := pm__law_take) fun _ _ _ _ _ _ us hl => match us, hl with | [_, _], _ => rfl⟩
  have F__law_one := fun_mk (st := s__law_one) l__law_one c__law_one k__law_one
  have D__law_one : DefAt K mg "_law_one" s__law_one pm__law_one := ⟨_, _, F__law_one, PySem.W.mg_of X G a__law_one, F__law_one.binds (ps := pm__law_one) fun _ _ _ _ _ _ us hl => match us, hl with | [_, _], _ => rfl⟩
  have F__law_lull := fun_mk (st := s__law_lull) l__law_lull c__law_lull k__law_lull
  have D__law_lull : DefAt K mg "_law_lull" s__law_lull pm__law_lull := ⟨_, _, F__law_lull, PySem.W.mg_of X G a__law_lull, F__law_lull.binds (ps := pm__law_lull) fun _ _ _ _ _ _ us hl => match us, hl with | [_], _ => rfl⟩
  have F__law_stops := fun_mk (st := s__law_stops) l__law_stops c__law_stops k__law_stops
  have D__law_stops : DefAt K mg "_law_stops" s__law_stops pm__law_stops := ⟨_, _, F__law_stops, PySem.W.mg_of X G a__law_stops, F__law_stops.binds (ps := pm__law_stops) fun _ _ _ _ _ _ us hl => match us, hl with | [_, _], _ => rfl⟩
  have F__law_gap := fun_mk (st := s__law_gap) l__law_gap c__law_gap k__law_gap
  have D__law_gap : DefAt K mg "_law_gap" s__law_gap pm__law_gap := ⟨_, _, F__law_gap, PySem.W.mg_of X G a__law_gap, F__law_gap.binds (ps := pm__law_gap) fun _ _ _ _ _ _ us hl => match us, hl with | [_, _], _ => rfl⟩
  have F__law_told := fun_mk (st := s__law_told) l__law_told c__law_told k__law_told
  have D__law_told : DefAt K mg "_law_told" s__law_told pm__law_told := ⟨_, _, F__law_told, PySem.W.mg_of X G a__law_told, F__law_told.binds (ps := pm__law_told) fun _ _ _ _ _ _ us hl => match us, hl with | [_, _, _], _ => rfl⟩
  have F__law_spans := fun_mk (st := s__law_spans) l__law_spans c__law_spans k__law_spans
  have D__law_spans : DefAt K mg "_law_spans" s__law_spans pm__law_spans := ⟨_, _, F__law_spans, PySem.W.mg_of X G a__law_spans, F__law_spans.binds (ps := pm__law_spans) fun _ _ _ _ _ _ us hl => match us, hl with | [_], _ => rfl⟩
  have F__law_limit_right := fun_mk (st := s__law_limit_right) l__law_limit_right c__law_limit_right k__law_limit_right
  have D__law_limit_right : DefAt K mg "_law_limit_right" s__law_limit_right pm__law_limit_right := ⟨_, _, F__law_limit_right, PySem.W.mg_of X G a__law_limit_right, F__law_limit_right.binds (ps := pm__law_limit_right) fun _ _ _ _ _ _ us hl => match us, hl with | [_, _, _, _], _ => rfl⟩
  have F_BadNumber_init := fun_mk (st := s_BadNumber_init) l_BadNumber_init c_BadNumber_init k_BadNumber_init
  have F_Lull_init := fun_mk (st := s_Lull_init) l_Lull_init c_Lull_init k_Lull_init
  have M_Lull_init : MethAt K ALull "__init__" "Lull.__init__" s_Lull_init pm_Lull_init := ⟨_, _, F_Lull_init, a_Lull_init, i_Lull_init, F_Lull_init.binds (ps := pm_Lull_init) fun _ _ _ _ _ _ us hl => match us, hl with | [_, _, _, _, _], _ => rfl⟩
  have T : Txt K mg ⟨ABadNumber, AWholeError, ALull⟩ :=
    { n_isinstance := PySem.W.mg_none_of X G n_isinstance,
      n_int := PySem.W.mg_none_of X G n_int,
      n_bool := PySem.W.mg_none_of X G n_bool,
      n_list := PySem.W.mg_none_of X G n_list,
      n_tuple := PySem.W.mg_none_of X G n_tuple,
      n_len := PySem.W.mg_none_of X G n_len,
      n_range := PySem.W.mg_none_of X G n_range,
      n_zip := PySem.W.mg_none_of X G n_zip,
      n_max := PySem.W.mg_none_of X G n_max,
      n_min := PySem.W.mg_none_of X G n_min,
      g_MOST_DELAY := ⟨_, PySem.W.mg_of X G v_MOST_DELAY⟩,
      g_MOST_TURN := ⟨_, PySem.W.mg_of X G v_MOST_TURN⟩,
      g_MOST_QUIET := ⟨_, PySem.W.mg_of X G v_MOST_QUIET⟩,
      g_MOST_LOST := ⟨_, PySem.W.mg_of X G v_MOST_LOST⟩,
      g_MOST_LIMIT := ⟨_, PySem.W.mg_of X G v_MOST_LIMIT⟩,
      g_MOST_PERIOD := ⟨_, PySem.W.mg_of X G v_MOST_PERIOD⟩,
      Lull := ⟨PySem.W.mg_of X G g_Lull, ⟨pg_Lull, hd_Lull, po_Lull, sa_Lull⟩, ha_Lull, s_hn, s_tk, hm_Lull, ne_Lull, is_Lull, ty_Lull, tup_Lull, lst_Lull, int_Lull, str_Lull⟩,
      c_delay := na_Lull_delay,
      c_turn := na_Lull_turn,
      c_losses := na_Lull_losses,
      c_quiet := na_Lull_quiet,
      BadNumber := ⟨⟨⟨_, _, _, _, _, _, _, _, _, _, _, _, _, _, _, xBadNumber_L, ve_one⟩, xBadNumber_sa, xBadNumber_ex, xBadNumber_ty, xBadNumber_kC⟩, PySem.W.mg_of X G g_BadNumber, xBadNumber_noA, ⟨xBadNumber_hg, xBadNumber_hk, xBadNumber_ex, xBadNumber_hd, xBadNumber_ha, s_hn, s_tk, xBadNumber_hm⟩, _, a_BadNumber_init, i_BadNumber_init, _, F_BadNumber_init, F_BadNumber_init.binds (ps := ["self", "number"]) fun _ _ _ _ _ _ us hl => match us, hl with | [_, _], _ => rfl⟩,
      x_nn := exm_ref xBadNumber_ex xBadNumber_is xBadNumber_ty xBadNumber_ss }
  exact ⟨PySem.W.fnOf "law" "law" (defArgs s_law) (defBody s_law) (defScope s_law) .none kV_law dc_law pm_law_ an_law cd_law ct_law, fun s v => .of_eq rfl, fun base _ _ =>
    law_ok T D_is_integer D_is_between D_check_lull D_check_quiet D_is_sign_behind D_are_signs D_stops_of D_widest D_signs_each D_check_limit D_signs_do D_periods_that_do D_good_periods D_fewest_signs D__law_pool D__law_take D__law_one D__law_lull D__law_stops D__law_gap D__law_told D__law_spans D__law_limit_right M_Lull_init mk_Lull kc_Lull  (fun_mk (st := s_law) l_law c_law k_law)⟩
theorem walk {l : PySem.W.OpenLaw} {q : Program} {loose : List Str} {XP : (Str → Option Value) → Heap → Prop} {YP : World → Heap → Prop} {d : DefRec} {K : Params → PySem.W.Frag} (hn : l.most = some 63) (hdf : d.params.defaults = [])
    (hY : ∀ (w : World) (h : Heap), YP w h → (K w.params).In h)
    (F : ∀ (w : World) (mg : Str → Option Value) (fa : Addr) (h : Heap), (K w.params).In h → h.Ns mainGlobals mg → mg d.name = some (.ref fa) →
      ∃ fd : FuncData, (∀ (s : Shared) (u : Value), BindsTo s fd ⟨[u], []⟩ [("_law_script", u)]) ∧ ∀ base : Heap, (K w.params).In base → base.Ns mainGlobals mg → FnOk l.prog w (K w.params) mg base CX0 10 fa fd ["_law_script"] (spLaw (K w.params))) :
    PySem.W.WalkO q loose XP YP l.row.toRowW d [] (fun f vs => PySem.call f vs) :=
  L2.walk_of (n := 63) (k := 10) (x := "_law_script") (CX := fun _ => CX0) (sp := fun w => spLaw (K w.params)) hn (by decide) hdf ⟨rfl, by decide, by decide⟩ hY F (fun _ _ a ns hl _ hS => ⟨a, ns, rfl, hS, hl, fun _ => rfl⟩) fun _ _ _ _ _ z => z
end K33

open PySem PySem.W PyProof.Rows in
set_option maxRecDepth 100000 in
set_option maxHeartbeats 0 in
theorem PySem.Challenge.cw_wholeline_k32_whole_good_periods_holds : PySem.Challenge.rw_wholeline_k32_whole_good_periods.Holds := by
  w_on; o_law; k_head; (case hw => w_witness2)
  k_fill
  refine K33.walk (l := PySem.Challenge.rw_wholeline_k32_whole_good_periods) rfl rfl (fun w h Y => PySem.W.kIn_of Y) ?F
  case F =>
    intro w mg fa h KX G hmg
    refine' K33.all_mk KX G hmg ?q_g_BadNumber ?q_g_WholeError ?q_g_Lull ?q_a_is_integer ?q_l_is_integer ?q_c_is_integer ?q_k_is_integer ?q_a_is_between ?q_l_is_between ?q_c_is_between ?q_k_is_between ?q_a_check_lull ?q_l_check_lull ?q_c_check_lull ?q_k_check_lull ?q_a_check_quiet ?q_l_check_quiet ?q_c_check_quiet ?q_k_check_quiet ?q_a_is_sign_behind ?q_l_is_sign_behind ?q_c_is_sign_behind ?q_k_is_sign_behind ?q_a_are_signs ?q_l_are_signs ?q_c_are_signs ?q_k_are_signs ?q_a_stops_of ?q_l_stops_of ?q_c_stops_of ?q_k_stops_of ?q_a_widest ?q_l_widest ?q_c_widest ?q_k_widest ?q_a_signs_each ?q_l_signs_each ?q_c_signs_each ?q_k_signs_each ?q_a_check_limit ?q_l_check_limit ?q_c_check_limit ?q_k_check_limit ?q_a_signs_do ?q_l_signs_do ?q_c_signs_do ?q_k_signs_do ?q_a_periods_that_do ?q_l_periods_that_do ?q_c_periods_that_do ?q_k_periods_that_do ?q_a_good_periods ?q_l_good_periods ?q_c_good_periods ?q_k_good_periods ?q_a_fewest_signs ?q_l_fewest_signs ?q_c_fewest_signs ?q_k_fewest_signs ?q_a__law_pool ?q_l__law_pool ?q_c__law_pool ?q_k__law_pool ?q_a__law_take ?q_l__law_take ?q_c__law_take ?q_k__law_take ?q_a__law_one ?q_l__law_one ?q_c__law_one ?q_k__law_one ?q_a__law_lull ?q_l__law_lull ?q_c__law_lull ?q_k__law_lull ?q_a__law_stops ?q_l__law_stops ?q_c__law_stops ?q_k__law_stops ?q_a__law_gap ?q_l__law_gap ?q_c__law_gap ?q_k__law_gap ?q_a__law_told ?q_l__law_told ?q_c__law_told ?q_k__law_told ?q_a__law_spans ?q_l__law_spans ?q_c__law_spans ?q_k__law_spans ?q_a__law_limit_right ?q_l__law_limit_right ?q_c__law_limit_right ?q_k__law_limit_right ?q_a_law ?q_l_law ?q_c_law ?q_k_law ?q_a_BadNumber_init ?q_i_BadNumber_init ?q_l_BadNumber_init ?q_c_BadNumber_init ?q_k_BadNumber_init ?q_a_Lull_init ?q_i_Lull_init ?q_l_Lull_init ?q_c_Lull_init ?q_k_Lull_init ?q_n_isinstance ?q_n_int ?q_n_bool ?q_n_list ?q_n_tuple ?q_n_len ?q_n_range ?q_n_zip ?q_n_max ?q_n_min ?q_v_MOST_DELAY ?q_v_MOST_TURN ?q_v_MOST_QUIET ?q_v_MOST_LOST ?q_v_MOST_LIMIT ?q_v_MOST_PERIOD ?q_s_hn ?q_s_tk ?q_pg_Lull ?q_hd_Lull ?q_po_Lull ?q_sa_Lull ?q_ha_Lull ?q_hm_Lull ?q_ne_Lull ?q_is_Lull ?q_ty_Lull ?q_tup_Lull ?q_lst_Lull ?q_int_Lull ?q_str_Lull ?q_mk_Lull ?q_kc_Lull ?q_na_Lull_delay ?q_na_Lull_turn ?q_na_Lull_losses ?q_na_Lull_quiet ?q_xBadNumber_L ?q_xBadNumber_sa ?q_xBadNumber_ex ?q_xBadNumber_ty ?q_xBadNumber_kC ?q_xBadNumber_noA ?q_xBadNumber_hg ?q_xBadNumber_hk ?q_xBadNumber_hd ?q_xBadNumber_ha ?q_xBadNumber_hm ?q_xBadNumber_is ?q_xBadNumber_ss ?q_xBadNumber_w ?q_xw_i ?q_xw_t ?q_xw_b
    (case q_g_BadNumber => k_is)
    (case q_g_WholeError => k_is)
    (case q_g_Lull => k_is)
    (case q_a_is_integer => k_is)
    (case q_l_is_integer => k_is)
    (case q_c_is_integer => k_is)
    (case q_k_is_integer => k_is)
    (case q_a_is_between => k_is)
    (case q_l_is_between => k_is)
    (case q_c_is_between => k_is)
    (case q_k_is_between => k_is)
    (case q_a_check_lull => k_is)
    (case q_l_check_lull => k_is)
    (case q_c_check_lull => k_is)
    (case q_k_check_lull => k_is)
    (case q_a_check_quiet => k_is)
    (case q_l_check_quiet => k_is)
    (case q_c_check_quiet => k_is)
    (case q_k_check_quiet => k_is)
    (case q_a_is_sign_behind => k_is)
    (case q_l_is_sign_behind => k_is)
    (case q_c_is_sign_behind => k_is)
    (case q_k_is_sign_behind => k_is)
    (case q_a_are_signs => k_is)
    (case q_l_are_signs => k_is)
    (case q_c_are_signs => k_is)
    (case q_k_are_signs => k_is)
    (case q_a_stops_of => k_is)
    (case q_l_stops_of => k_is)
    (case q_c_stops_of => k_is)
    (case q_k_stops_of => k_is)
    (case q_a_widest => k_is)
    (case q_l_widest => k_is)
    (case q_c_widest => k_is)
    (case q_k_widest => k_is)
    (case q_a_signs_each => k_is)
    (case q_l_signs_each => k_is)
    (case q_c_signs_each => k_is)
    (case q_k_signs_each => k_is)
    (case q_a_check_limit => k_is)
    (case q_l_check_limit => k_is)
    (case q_c_check_limit => k_is)
    (case q_k_check_limit => k_is)
    (case q_a_signs_do => k_is)
    (case q_l_signs_do => k_is)
    (case q_c_signs_do => k_is)
    (case q_k_signs_do => k_is)
    (case q_a_periods_that_do => k_is)
    (case q_l_periods_that_do => k_is)
    (case q_c_periods_that_do => k_is)
    (case q_k_periods_that_do => k_is)
    (case q_a_good_periods => k_is)
    (case q_l_good_periods => k_is)
    (case q_c_good_periods => k_is)
    (case q_k_good_periods => k_is)
    (case q_a_fewest_signs => k_is)
    (case q_l_fewest_signs => k_is)
    (case q_c_fewest_signs => k_is)
    (case q_k_fewest_signs => k_is)
    (case q_a__law_pool => k_is)
    (case q_l__law_pool => k_is)
    (case q_c__law_pool => k_is)
    (case q_k__law_pool => k_is)
    (case q_a__law_take => k_is)
    (case q_l__law_take => k_is)
    (case q_c__law_take => k_is)
    (case q_k__law_take => k_is)
    (case q_a__law_one => k_is)
    (case q_l__law_one => k_is)
    (case q_c__law_one => k_is)
    (case q_k__law_one => k_is)
    (case q_a__law_lull => k_is)
    (case q_l__law_lull => k_is)
    (case q_c__law_lull => k_is)
    (case q_k__law_lull => k_is)
    (case q_a__law_stops => k_is)
    (case q_l__law_stops => k_is)
    (case q_c__law_stops => k_is)
    (case q_k__law_stops => k_is)
    (case q_a__law_gap => k_is)
    (case q_l__law_gap => k_is)
    (case q_c__law_gap => k_is)
    (case q_k__law_gap => k_is)
    (case q_a__law_told => k_is)
    (case q_l__law_told => k_is)
    (case q_c__law_told => k_is)
    (case q_k__law_told => k_is)
    (case q_a__law_spans => k_is)
    (case q_l__law_spans => k_is)
    (case q_c__law_spans => k_is)
    (case q_k__law_spans => k_is)
    (case q_a__law_limit_right => k_is)
    (case q_l__law_limit_right => k_is)
    (case q_c__law_limit_right => k_is)
    (case q_k__law_limit_right => k_is)
    (case q_a_law => k_is)
    (case q_l_law => k_is)
    (case q_c_law => k_is)
    (case q_k_law => k_is)
    (case q_a_BadNumber_init => k_is)
    (case q_i_BadNumber_init => k_is)
    (case q_l_BadNumber_init => k_is)
    (case q_c_BadNumber_init => k_is)
    (case q_k_BadNumber_init => k_is)
    (case q_a_Lull_init => k_is)
    (case q_i_Lull_init => k_is)
    (case q_l_Lull_init => k_is)
    (case q_c_Lull_init => k_is)
    (case q_k_Lull_init => k_is)
    (case q_n_isinstance => k_is)
    (case q_n_int => k_is)
    (case q_n_bool => k_is)
    (case q_n_list => k_is)
    (case q_n_tuple => k_is)
    (case q_n_len => k_is)
    (case q_n_range => k_is)
    (case q_n_zip => k_is)
    (case q_n_max => k_is)
    (case q_n_min => k_is)
    (case q_v_MOST_DELAY => k_is)
    (case q_v_MOST_TURN => k_is)
    (case q_v_MOST_QUIET => k_is)
    (case q_v_MOST_LOST => k_is)
    (case q_v_MOST_LIMIT => k_is)
    (case q_v_MOST_PERIOD => k_is)
    (case q_s_hn => k_is)
    (case q_s_tk => k_is)
    (case q_pg_Lull => k_is)
    (case q_hd_Lull => k_is)
    (case q_po_Lull => k_is)
    (case q_sa_Lull => k_is)
    (case q_ha_Lull => k_is)
    (case q_hm_Lull => k_is)
    (case q_ne_Lull => k_is)
    (case q_is_Lull => k_is)
    (case q_ty_Lull => k_is)
    (case q_tup_Lull => k_is)
    (case q_lst_Lull => k_is)
    (case q_int_Lull => k_is)
    (case q_str_Lull => k_is)
    (case q_mk_Lull => k_is)
    (case q_kc_Lull => k_is)
    (case q_na_Lull_delay => k_is)
    (case q_na_Lull_turn => k_is)
    (case q_na_Lull_losses => k_is)
    (case q_na_Lull_quiet => k_is)
    (case q_xBadNumber_L => k_is)
    (case q_xBadNumber_sa => k_is)
    (case q_xBadNumber_ex => k_is)
    (case q_xBadNumber_ty => k_is)
    (case q_xBadNumber_kC => k_is)
    (case q_xBadNumber_noA => k_is)
    (case q_xBadNumber_hg => k_is)
    (case q_xBadNumber_hk => k_is)
    (case q_xBadNumber_hd => k_is)
    (case q_xBadNumber_ha => k_is)
    (case q_xBadNumber_hm => k_is)
    (case q_xBadNumber_is => k_is)
    (case q_xBadNumber_ss => k_is)
    (case q_xBadNumber_w => k_is)
    (case q_xw_i => k_is)
    (case q_xw_t => k_is)
    (case q_xw_b => k_is)
