import PyProof.Rows.All
import Wide.All
import OpenK.AllK
import Wide.FinOn
import PyProof.EqAt
import PyProof.EqKinds
import PyProof.TupleCall
import HandS.Base
import HandS.Call
import HandS.List
import HandS.Comp
import HandS.Ends
import HandS.Words
import HandS.WordsList
import HandS.Exc
import HandS.ExcInit
import HandS.ExcIs
import HandS.OwnEq
import HandS.IsInst
import HandS.ExcOwn
import HandS.ExcField
import HandS.WordsExc
import HandS.TryOnly
import HandS.TryMany
import HandS.CallSlots
import HandS.Wide
import HandS.Codes
import KE.KTupSum
import PyProof.ListRange
import KE.GoesEnum
import HandS.Iter
import HandS.Walk
import HandS.HotCalls
import HandS.Defaults
import HandS.TupAny
import HandS.Evl
import PySem.Challenge.RW_wholeline_k15_ways_built
set_option Elab.async false
set_option maxRecDepth 100000
set_option maxHeartbeats 4000000
namespace PySem.W
open PySem PySem.Calls PyProof.Rows
section
variable {prog : Program} {w : World} {A : Around} {E : Value → Shared → Prop} {s : Shared} {K : Frag} {x C L f : Addr} {h₀ : Heap} {m : Str → Option Value} {ox : Obj} {od : Option Obj} {b tb : Value}
theorem objNe_K {Q : Fin → Shared → Prop} (hu : A.units < cLine) (X : K.In s.heap) (I : InstAt s.heap x ox C od)
    (hs : findIn K (.ref C) "__eq__" = some (some (.ref f))) (hf : isFn K (.ref f) = true)
    (h : wpAny (model prog w) A (call (.ref f) [.ref x, b]) (fun v s' => ∃ r, v = .bool r ∧ Q (.done (.ret (.bool (!r)))) s') E s) :
    wpAny (model prog w) A (Builtin.«object.__ne__» ⟨[.ref x, b], []⟩) Q E s := by
  obtain ⟨hp, g, d, tk, os⟩ := s
  unfold Builtin.«object.__ne__»
  repeat (first
    | with_reducible refine wpAny_cRoomFor hu ?_
    | (refine wpAny_bind (m := callSpecialIfBound? (.ref x) (Str.ofString "__eq__") [b])
        (ifBound_K X I hs hf (wpAny_mono h (fun r s' hr => by
          obtain ⟨b, rfl, hq⟩ := hr
          repeat (first | exact hq | exact wpAny_pure hq | exact wpAny_truthy_bool hq | (refine wpAny_bind (m := truthy (.bool _)) (wpAny_truthy_bool ?_)) | wp_step)) fun _ _ e => e)))
    | wp_step)
theorem cmpNe_K {Q : Value → Shared → Prop} (hu : A.units + 1 < cLine) (F : Fr h₀ L s.heap m) (X₀ : K.In h₀) (I : InstAt s.heap x ox C od) (hb : Looks (model prog w) s.heap (typeOf b) tb) (hn : notFirst K C tb = true)
    (hne : findIn K (.ref C) "__ne__" = some (some (.builtin "object.__ne__"))) (hm : mroIn K C (.type "object") = some true)
    (hs : findIn K (.ref C) "__eq__" = some (some (.ref f))) (hf : isFn K (.ref f) = true)
    (h : wpAny (model prog w) A.in1 (call (.ref f) [.ref x, b]) (fun v s' => ∃ r, v = .bool r ∧ Q (.bool (!r)) s') E s) : wpAny (model prog w) A (richCompare .NotEq (.ref x) b) Q E s := by
  have X := X₀.keeps F.keep
  have sub : Looks (model prog w) s.heap (isInstance (.ref x) (.type "object")) true := I.type.andThen (looks_mroIn X hm)
  have one : wpAny (model prog w) A (tryCompare (.ref x) "__ne__" b) (fun r s' => ∃ v, r = some v ∧ Q v s') E s := by
    unfold tryCompare
    refine wpAny_bind ?_
    simp only [callSpecialIfBound?, bindSpecialIfBound?]
    refine wpAny_holding (wpAny_bind (wpAny_bind (wpAny_bind (I.type.here ((looks_findIn X hne).here ?_)))))
    simp only [PySem.F.cmp_object.ne.bind]
    refine wpAny_bind (wpAny_askSetting (wpAny_ite ?_))
    have fin : wpAny (model prog w) A (call (.builtin "object.__ne__") ([.ref x] ++ [b]) >>= fun v => pure (some v)) (fun r s' => wpAny (model prog w) A (match r with
        | some .notImplemented | none => pure none
        | some v => pure (some v)) (fun r s' => ∃ v, r = some v ∧ Q v s') E s') E s := by
      refine wpAny_bind (wpAny_call (codeAny_call_builtin PySem.F.cmp_object.ne.plain PySem.F.cmpEntry_ne (check_slot PySem.F.cmpKind_ne PySem.F.cmpSplit_ne sub (PySem.F.cmpArgs_ne _ _)
        (objNe_K (A := A.in1) hu X I hs hf (wpAny_mono h (fun v s' hv => ?_) fun _ _ e => e)))))
      obtain ⟨r, rfl, hq⟩ := hv
      first | exact ⟨r, rfl, wpAny_pure (wpAny_pure ⟨_, rfl, hq⟩)⟩ | exact ⟨r, rfl, wpAny_pure ⟨_, rfl, hq⟩⟩
    split
    · repeat (first | exact fin | with_reducible refine wpAny_pure ?_ | with_reducible refine wpAny_bind ?_ | with_reducible refine wpAny_tryCatch ?_)
    · refine wpAny_tryCatch ?_
      repeat (first | exact fin | with_reducible refine wpAny_pure ?_ | with_reducible refine wpAny_bind ?_)
  unfold richCompare
  simp only [oneThing_ref]
  refine wpAny_holding (wpAny_bind (wpAny_cRoomFor (Nat.lt_of_succ_lt hu) ?_))
  refine wpAny_bind (I.type.here (wpAny_bind (hb.here ?_)))
  split
  · rename_i q
    have e : subIn K tb (.ref C) = some false := by
      rcases Bool.or_eq_true_iff.mp hn with e | e
      · rw [beq_iff_eq.mp e] at q; simp at q
      · exact beq_iff_eq.mp e
    refine wpAny_bind ((looks_subIn X e).here ?_)
    simp only [Bool.false_eq_true, if_false]
    refine wpAny_bind (wpAny_mono one (fun r s' z => ?_) fun _ _ e => e)
    obtain ⟨v, rfl, hq⟩ := z
    exact wpAny_pure hq
  · refine wpAny_bind (wpAny_pure ?_)
    simp only [Bool.false_eq_true, if_false]
    refine wpAny_bind (wpAny_mono one (fun r s' z => ?_) fun _ _ e => e)
    obtain ⟨v, rfl, hq⟩ := z
    exact wpAny_pure hq
end
end PySem.W

set_option Elab.async false
set_option maxRecDepth 100000
set_option maxHeartbeats 4000000
namespace L2
open PySem PySem.Spec PyProof.Rows
section
variable {X : Cx} {CX : CXT} {k : Nat} {f C : Addr} {fd : FuncData} {ps : List Str} {sp : Sp}
/-- the own method f, called at some frame below with room -/
theorem run_at {A : Around} {pins : List (Addr × Obj)} {σ : St} {H : Hp} {s : Shared} {Q : VK} {us : List Value} {vs : List V} (F : FnOk X.prog X.w X.K X.mg X.base CX k f fd ps sp) (hr : Room k A) (hA : A.frames = X.A.frames) (hb : Binds X.K fd ps []) (hx : Passes CX X E0)
    (I : Inv X pins σ H s) (r : Vals vs us) (h : sp vs H Q E0) : wpAny (model X.prog X.w) A (call (.ref f) us) (EP X pins σ Q) X.xe s := by
  have hl : us.length = ps.length := by rw [← r.length]; exact F.len _ _ _ _ h
  have e0 : Env0 X.prog X.w X.K X.mg X.base A X.stack s H := by
    have e := I.env0
    exact ⟨by rw [hA]; exact e.frames, e.mod, e.bs, e.bsz, e.funs, e.frf, e.hok, e.bare⟩
  refine wpAny_call (codeAny_mono (F.run A X.stack s H ⟨us, []⟩ us vs Q E0 hr e0 (by
    have := hb s us I.kIn (by simpa using hl)
    simpa using this) r h) fun r s' hq => ?_)
  cases r with
  | error e => exact hx pins σ H s e s' I hq
  | ok fl =>
    cases fl with
    | ret u => exact I.after hq
    | next => exact False.elim hq
    | brk => exact False.elim hq
    | cont => exact False.elim hq
/-- x == y, x an instance of the class at C, by its own ==; y anything whose type is known -/
def rEqO (K : PySem.W.Frag) (C : Addr) (sp : Sp) : R2 := fun x y H Q => ∃ a dx fs t, x = .ref a ∧ H a = some (.ins C dx fs) ∧ TyX K H y t ∧ PySem.W.notFirst K C t = true ∧ sp [x, y] H (fun v H' => ∃ b, v = .bl b ∧ Q (.bl b) H') E0
def rNeO (K : PySem.W.Frag) (C : Addr) (sp : Sp) : R2 := fun x y H Q => ∃ a dx fs t, x = .ref a ∧ H a = some (.ins C dx fs) ∧ TyX K H y t ∧ PySem.W.notFirst K C t = true ∧ sp [x, y] H (fun v H' => ∃ b, v = .bl b ∧ Q (.bl (!b)) H') E0
structure EqM (K : PySem.W.Frag) (C f : Addr) : Prop where
  eq : PySem.W.findIn K (.ref C) "__eq__" = some (some (.ref f))
  fn : PySem.W.isFn K (.ref f) = true
  ne : PySem.W.findIn K (.ref C) "__ne__" = some (some (.builtin "object.__ne__"))
  ob : PySem.W.mroIn K C (.type "object") = some true
theorem op_eqO (F : FnOk X.prog X.w X.K X.mg X.base CX k f fd ps sp) (M : EqM X.K C f) (hr : Room k X.A) (hb : Binds X.K fd ps []) (hx : Passes CX X E0) : OpR X (compareOp .Eq) (rEqO X.K C sp) := by
  intro pins s σ H x y v u Q I rx ry hq
  obtain ⟨a, dx, fs, t, rfl, ha, ty, hn, q⟩ := hq
  cases (show v = Value.ref a from rx)
  obtain ⟨P, Z, p, _⟩ := kit_of I ry ty
  obtain ⟨mA, J, _⟩ := ins_get I.hok ha
  obtain ⟨od, J, _⟩ := J.look
  obtain ⟨m, hF⟩ := I.fr
  show wpAny (model X.prog X.w) X.A (richCompare .Eq (.ref a) u) (EP X pins σ Q) X.xe s
  refine PySem.W.cmp_K (op := .Eq) (tb := t) hr.units0 hF I.ok.mod.kin J (Z.ty _ _ I.kIn p) hn M.eq M.fn ?_
  refine wpAny_mono (run_at (vs := [.ref a, y]) F hr rfl hb hx I (.cons rfl (.cons ry .nil)) q) (fun v' s' z => ?_) fun _ _ e => e
  obtain ⟨w', H', I', rv, b, rfl, q'⟩ := z
  cases rv
  exact ⟨.bl b, H', I', rfl, q'⟩
theorem op_neO (F : FnOk X.prog X.w X.K X.mg X.base CX k f fd ps sp) (M : EqM X.K C f) (hr : Room (k + 1) X.A) (hb : Binds X.K fd ps []) (hx : Passes CX X E0) : OpR X (compareOp .NotEq) (rNeO X.K C sp) := by
  intro pins s σ H x y v u Q I rx ry hq
  obtain ⟨a, dx, fs, t, rfl, ha, ty, hn, q⟩ := hq
  cases (show v = Value.ref a from rx)
  obtain ⟨P, Z, p, _⟩ := kit_of I ry ty
  obtain ⟨mA, J, _⟩ := ins_get I.hok ha
  obtain ⟨od, J, _⟩ := J.look
  obtain ⟨m, hF⟩ := I.fr
  show wpAny (model X.prog X.w) X.A (richCompare .NotEq (.ref a) u) (EP X pins σ Q) X.xe s
  refine PySem.W.cmpNe_K (tb := t) (by have := hr.units; omega) hF I.ok.mod.kin J (Z.ty _ _ I.kIn p) hn M.ne M.ob M.eq M.fn ?_
  refine wpAny_mono (run_at (vs := [.ref a, y]) F hr.in1 rfl hb hx I (.cons rfl (.cons ry .nil)) q) (fun v' s' z => ?_) fun _ _ e => e
  obtain ⟨w', H', I', rv, b, rfl, q'⟩ := z
  cases rv
  exact ⟨b, rfl, .bl (!b), H', I', rfl, q'⟩
/-- len(o), o an instance of the class at C with an own __len__ -/
def rLenO (C : Addr) (sp : Sp) : List V → Hp → VK → Prop := fun xs H Q => ∃ a dx fs, xs = [.ref a] ∧ H a = some (.ins C dx fs) ∧ sp [.ref a] H (fun v H' => ∃ n : Int, v = .int n ∧ (0 ≤ n ∧ n < 2 ^ 63) ∧ Q (.int n) H') E0
theorem call_lenO (F : FnOk X.prog X.w X.K X.mg X.base CX k f fd ps sp) (hs : PySem.W.findIn X.K (.ref C) "__len__" = some (some (.ref f))) (hf : PySem.W.isFn X.K (.ref f) = true) (hr : Room (k + 1) X.A) (hb : Binds X.K fd ps []) (hx : Passes CX X E0) :
    CallR X (.builtin "len") (rLenO C sp) := by
  intro pins s σ H xs us Q I r h
  obtain ⟨a, dx, fs, rfl, ha, q⟩ := h
  cases r with
  | cons rx rr =>
    rename_i u us'
    cases rr
    cases (show u = Value.ref a from rx)
    obtain ⟨mA, J, _⟩ := ins_get I.hok ha
    obtain ⟨od, J, _⟩ := J.look
    obtain ⟨m, hF⟩ := I.fr
    refine PySem.W.len_K hF I.ok.mod.kin J hs hf ?_
    refine wpAny_mono (run_at (vs := [.ref a]) F hr.in1 rfl hb hx I (.cons rfl .nil) q) (fun v' s' z => ?_) fun _ _ e => e
    obtain ⟨w', H', I', rv, n, rfl, hn, q'⟩ := z
    obtain ⟨t, rfl⟩ := (show ∃ t, v' = Value.int n t from rv)
    exact ⟨hn, .int n, H', I'.tok _, ⟨_, rfl⟩, q'⟩
end
end L2

set_option Elab.async false
set_option maxRecDepth 100000
set_option maxHeartbeats 4000000
namespace PySem.W
open PySem PySem.Spec PySem.Calls PyProof.Rows
section
variable {K : Frag} {C : Addr}
theorem findObj_dat {od : Option Obj} {name : Str} {a g : Value} (hc : (clsIn K C).isSome = true) (ha : findIn K (.ref C) name = some (some a)) (hg : specialIn K a "__get__" = some (some g)) (ht : takesIn K a = some true) :
    findObj K C od name = some (.bind g a) := by
  obtain ⟨cd, hc⟩ := Option.isSome_iff_exists.mp hc
  simp [findObj, hc, ha, hg, ht]
variable {prog : Program} {w : World} {A : Around} {E : Value → Shared → Prop} {s : Shared} {x D : Addr} {ox : Obj}
theorem kin_classD {od : Option Obj} {Q : Option Value → Shared → Prop} (T : L2.ExcC K D)
    (X : K.In s.heap) (I : InstAt s.heap x ox D od) (h : Q (some (.ref D)) { s with toks := s.toks + 1 }) : wpAny (model prog w) A (getAttr? (.ref x) "__class__") Q E s := by
  have hf : findObj K D od "__class__" = some (.bind (.builtin "getset_descriptor.__get__") (.builtin "object.__class__")) :=
    findObj_dat (by obtain ⟨cd, hc, _⟩ := any_some T.hd; rw [hc]; rfl) T.ha T.hn T.ht
  obtain ⟨hp, g, d, t, os⟩ := s
  have L0 := I.type (M := model prog w)
  have L1 := looks_findIn (M := model prog w) X T.hg
  have L2 := looks_findIn (M := model prog w) X T.hk
  have L3 := looks_find (M := model prog w) X I hf
  have sub : Looks (model prog w) hp (isInstance (.ref x) (.type "BaseException")) true := L0.andThen (looks_subIn X T.hs)
  have hx0 : (false && onTheHeap (Value.builtin "BaseException.__getattribute__")) = false := rfl
  have hx2 : (Value.builtin "BaseException.__getattribute__" == Value.builtin "object.__getattribute__") = false := by decide +kernel
  have hx1 : (onTheHeap (Value.ref D) && Value.builtin "BaseException.__getattribute__" == Value.builtin "object.__getattribute__") = false := by rw [hx2]; rfl
  unfold getAttr? getAttrBy? getAttrBy
  refine wpAny_bind (wpAny_mkText (wpAny_bind (wpAny_attempt (wpAny_holding (wpAny_bind (L0.at (wpAny_bind (L1.at ?_))))))))
  show wpAny _ _ (if (onTheHeap (Value.ref D) && Value.builtin "BaseException.__getattribute__" == Value.builtin "object.__getattribute__") = true then _ else _) _ _ _
  rw [hx1, if_neg Bool.false_ne_true]
  unfold getAttrByItsOwn hookBefore
  refine wpAny_bind ?_
  rw [if_pos (show onTheHeap (Value.ref D) = true from rfl)]
  refine L2.at ?_
  refine wpAny_bind (wpAny_attempt (wpAny_holding ?_))
  unfold callGetattribute
  rw [hx0, if_neg Bool.false_ne_true]
  unfold boundAndCalled
  rw [PySem.F.excAttr_ValueError.ga.bind (.ref x)]
  refine wpAny_bind (wpAny_pure ?_)
  show wpAny _ _ (call (.builtin "BaseException.__getattribute__") [.ref x, .str "__class__" t]) _ _ _
  refine wpAny_call (codeAny_call_builtin PySem.F.excAttr_ValueError.ga.plain PySem.F.entry_bexc_ga ?_)
  refine @check_slot (model prog w) _ _ ⟨hp, g, d, t + 1, os⟩ "BaseException.__getattribute__" "BaseException" "__getattribute__" (.ref x) [.str "__class__" t] [] _ (by decide +kernel) (by decide +kernel) sub (PySem.F.args_bexc_ga (.ref x) (.str "__class__" t)) ?_
  unfold Builtin.«object.__getattribute__»
  refine wpAny_bind (wpAny_of_eq (a := ((Value.ref x : Value), [Value.str "__class__" t])) (by first | rfl | (simp only [slotArgs]; rfl)) ?_)
  refine wpAny_bind (wpAny_pure (wpAny_bind (L0.at (wpAny_bind (L3.at ?_)))))
  show wpAny _ _ (holding [Value.builtin "object.__class__"] (call (.builtin "getset_descriptor.__get__") [.builtin "object.__class__", .ref x, .ref D]) >>= ret) _ _ _
  refine wpAny_bind (wpAny_holding (wpAny_call (class_get (s := ⟨hp, g, d, t + 1, os⟩) (ox := ox) (od := od) X I T.hm ?_)))
  refine wpAny_pure ?_
  show wpAny _ _ (handedOut (.ref D)) _ _ _
  rw [handedOut_of (v := .ref D) rfl]
  first
    | exact wpAny_pure (wpAny_pure h)
    | exact wpAny_pure h
    | exact wpAny_pure (wpAny_bind (wpAny_pure (wpAny_pure h)))
theorem kitx_excD (T : L2.ExcC K D) : KitX K (.ref x) (.ref D) (fun h => ∃ od, InstAt h x ox D od) where
  ty := fun _ _ _ I => by
    obtain ⟨_, I⟩ := I
    exact I.type
  it := fun M h X _ => by
    obtain ⟨cdD, hcD, _⟩ := any_some T.hd
    unfold clsIn at hcD
    split at hcD
    · rename_i c' d' cd' sl' ho
      intro A' Q' E' s' k q
      unfold isType loadHead
      exact wpAny_bind (wpAny_loadPart (k _ _ (X _ _ ho)) (wpAny_pure q))
    · cases hcD
  ne := fun h tp dd its n sl X htp => by
    obtain ⟨cdD, hcD, _⟩ := any_some T.hd
    refine Bool.eq_false_iff.mpr fun q => ?_
    have e : D = tp := Value.ref.inj (beq_iff_eq.mp q)
    subst e
    unfold clsIn at hcD
    split at hcD
    · rename_i c' d' cd' sl' ho
      have z := (X _ _ ho).symm.trans htp
      cases z
    · cases hcD
  ca := fun X I k => by
    obtain ⟨_, I⟩ := I
    exact kin_classD T X I k
end
end PySem.W
namespace L2
open PySem PySem.Spec PyProof.Rows
section
variable {X : Cx}
/-- isinstance(e, c), e the exception that the suite holds, with a dict or without -/
theorem call_isED {a D : Addr} {d : Option Addr} {oe : Obj} {pn : List (Addr × Obj)} (C : ExcC X.K D) (hz : Zc (.ref D) d oe) (hf : ∃ vs, oe.data = .fields vs) (hd : ∀ (pins : List (Addr × Obj)) (σ : St) (H : Hp) (s : Shared), Inv (X.suite a ((a, oe) :: pn)) pins σ H s → ∀ dd, d = some dd → ∃ od, s.heap.get? dd = some od) :
    CallR (X.suite a ((a, oe) :: pn)) (.builtin "isinstance") (rIsE X.K D a) := by
  intro pins s σ H xs us Q I r h
  obtain ⟨c, cv, b, rfl, hcv, e, q⟩ := h
  cases r with
  | cons rx rr =>
    cases rr with
    | cons rt rr =>
      cases rr
      cases rx
      have ec := hcv _ rt
      subst ec
      obtain ⟨hget, _⟩ := I.pin (a, oe) (List.mem_append.mpr (.inl List.mem_cons_self))
      obtain ⟨vs, hv⟩ := hf
      have J : ∃ od, PySem.W.InstAt s.heap a oe D od := by
        have hd' := hd pins σ H s I
        obtain ⟨oc, od, oda, osl⟩ := oe
        obtain ⟨h1, h2⟩ := hz
        dsimp only at h1 h2 hv
        subst h1 h2 hv
        cases od with
        | none => exact ⟨none, hget, rfl, rfl, trivial⟩
        | some dd =>
          obtain ⟨o, ho⟩ := hd' dd rfl
          exact ⟨some o, hget, rfl, rfl, ho⟩
      exact PySem.W.kia_one (PySem.W.kitx_excD C) I.kIn J e (fun z => nomatch z) fun tk => ⟨.bl b, H, I.kept (t' := tk) fun _ _ z => z, rfl, q⟩
/-- the same where the dict is tracked: the reading asks it -/
def rIsED (K : PySem.W.Frag) (D a : Addr) (cls : Value) (d : Option Addr) : List V → Hp → VK → Prop := fun xs H Q => cls = .ref D ∧ (∀ dd, d = some dd → ∃ fs, H dd = some (.xd fs)) ∧ ∃ (c : V) (cv : Value) (b : Bool), xs = [.ref a, c] ∧ (∀ u, RelV c u → u = cv) ∧ PySem.W.kitOne K (.ref D) cv = some b ∧ Q (.bl b) H
theorem call_isEX {a D : Addr} {cls : Value} {d : Option Addr} {oe : Obj} {pn : List (Addr × Obj)} (C : ExcC X.K D) (hz : Zc cls d oe) (hf : ∃ vs, oe.data = .fields vs) : CallR (X.suite a ((a, oe) :: pn)) (.builtin "isinstance") (rIsED X.K D a cls d) := by
  intro pins s σ H xs us Q I r h
  obtain ⟨ec0, hdd, c, cv, b, rfl, hcv, e, q⟩ := h
  subst ec0
  cases r with
  | cons rx rr =>
    cases rr with
    | cons rt rr =>
      cases rr
      cases rx
      have ec := hcv _ rt
      subst ec
      obtain ⟨hget, _⟩ := I.pin (a, oe) (List.mem_append.mpr (.inl List.mem_cons_self))
      obtain ⟨vs, hv⟩ := hf
      have J : ∃ od, PySem.W.InstAt s.heap a oe D od := by
        obtain ⟨oc, od, oda, osl⟩ := oe
        obtain ⟨h1, h2⟩ := hz
        dsimp only at h1 h2 hv
        subst h1 h2 hv
        cases od with
        | none => exact ⟨none, hget, rfl, rfl, trivial⟩
        | some dd =>
          obtain ⟨fs, hfs⟩ := hdd dd rfl
          obtain ⟨mA, hns, _⟩ := (show ObjOk X.prog X.w H s.heap dd (.xd fs) from I.hok dd _ hfs)
          obtain ⟨od, ho, _⟩ := lookIn_ns hns
          exact ⟨some od, hget, rfl, rfl, ho⟩
      exact PySem.W.kia_one (PySem.W.kitx_excD C) I.kIn J e (fun z => nomatch z) fun tk => ⟨.bl b, H, I.kept (t' := tk) fun _ _ z => z, rfl, q⟩
end
section
variable {X : Cx} {CX : CXT} {k : Nat} {f C : Addr} {fd : FuncData} {ps : List Str} {sp : Sp} {dvs : List V} {ds : List Value} {E : St → XK} {x m : Str} {p pos apos : Pos} {e o : Expr} {es : List Expr} {ta : TE} {t : TA}
/-- C(e, ..) where what is raised is wished for at the slots as they stand -/
def tMakeS (C : Addr) (sp : Sp) (dvs : List V) (E : St → XK) (t : TA) : TE := fun σ H Q => t σ H fun vs H1 => ∀ x dx, H1 x = none → H1 dx = none → dx ≠ x →
  sp (.ref x :: (vs ++ dvs)) (upd (upd H1 dx (.own x)) x (.ins C dx [])) (fun v H2 => v = .non ∧ Q (.ref x) H2) (fun cls d H2 => E σ cls d H2)
theorem run_makeS {pins : List (Addr × Obj)} {σ : St} {H : Hp} {s : Shared} {Q : VK} {us : List Value} {vs : List V} (M : Mk X.K C f) (F : FnOk X.prog X.w X.K X.mg X.base CX k f fd ps sp) (hr : Room (k + 1) X.A) (hb : Binds X.K fd ps ds) (hd : Vals dvs ds)
    (hx : PassesAt CX X σ (E σ)) (I : Inv X pins σ H s) (r : Vals vs us)
    (h : ∀ x dx, H x = none → H dx = none → dx ≠ x → sp (.ref x :: (vs ++ dvs)) (upd (upd H dx (.own x)) x (.ins C dx [])) (fun v H2 => v = .non ∧ Q (.ref x) H2) (E σ)) :
    wpAny (model X.prog X.w) X.A (call (.ref C) us) (EP X pins σ Q) X.xe s := by
  have hq := h (s.heap.objs.size + 1) s.heap.objs.size (I.hok.fresh (Nat.le_succ _)) (I.hok.fresh (Nat.le_refl _)) (Nat.ne_of_lt (Nat.lt_succ_self _))
  have I2 := Inv.made (C := C) I
  have r2 : Vals (V.ref (s.heap.objs.size + 1) :: (vs ++ dvs)) (Value.ref (s.heap.objs.size + 1) :: (us ++ ds)) := .cons rfl (r.append hd)
  have hl : (Value.ref (s.heap.objs.size + 1) :: us ++ ds).length = ps.length := by
    have e := r2.length
    rw [F.len _ _ _ _ hq] at e
    exact e.symm
  refine wpAny_call (make_map (f := f) I.kIn M.makes M.init (beq_iff_eq.mp M.fn) (codeAny_mono (F.run _ X.stack _ _ ⟨Value.ref (s.heap.objs.size + 1) :: us, []⟩ (Value.ref (s.heap.objs.size + 1) :: (us ++ ds)) _ _ (E σ) (hr.make C us [])
    (I2.env0.make C us []) (hb _ (Value.ref (s.heap.objs.size + 1) :: us) I2.kIn hl) r2 hq) fun r s' hq' => ?_))
  cases r with
  | error e => exact hx pins _ _ e s' I2 hq'
  | ok fl =>
    cases fl with
    | ret u =>
      obtain ⟨v, H', I3, rv, ev, q3⟩ := I2.after hq'
      subst ev
      exact ⟨rv, ⟨V.ref (s.heap.objs.size + 1), H', I3, rfl, q3⟩⟩
    | next => exact False.elim hq'
    | brk => exact False.elim hq'
    | cont => exact False.elim hq'
theorem pe_makeS (M : Mk X.K C f) (F : FnOk X.prog X.w X.K X.mg X.base CX k f fd ps sp) (hr : Room (k + 1) X.A) (hg : Gl X x) (hm : X.mg x = some (.ref C)) (hb : Binds X.K fd ps ds) (hd : Vals dvs ds) (hx : ∀ σ, PassesAt CX X σ (E σ))
    (ha : PA X (e :: es) t) (hdb : (x == ("__debug__" : Str)) = false := by decide) (he : starEach (e :: es) X.env = (false, eval e X.env) :: starEach es X.env := by rfl) (hpl : (backTo pos (starEach es X.env)).any (·.1) = false := by rfl) :
    PE X (.Call (.Name x p) (e :: es) [] pos) (tMakeS C sp dvs E t) := by
  refine ⟨fun pins s σ H Q I h => ?_⟩
  refine wpAny_Call_Name_kw (ld_glob I hg hm ?_ hdb)
  refine PySem.W.callWith_K (h₀ := X.base) I.ok.mod.kin M.kp (thn (ha.run pos pins s σ H _ I h) fun us s1 ⟨vs, H1, I1, r, q⟩ => ⟨I1.kIn, ?_⟩) he hpl
  exact run_makeS M F hr hb hd (hx σ) I1 r q
/-- o.m(e, ..) | o.m() likewise -/
def tMethSD (C : Addr) (m : Str) (sp : Sp) (dvs : List V) (E : St → XK) (ta : TE) (t : TA) : TE := fun σ H Q => ta σ H fun x H1 => ∃ a dx fs, x = .ref a ∧ H1 a = some (.ins C dx fs) ∧ fs.lookup m = none ∧
  t σ H1 fun vs H2 => sp (x :: (vs ++ dvs)) H2 Q (E σ)
theorem pe_methSD {pl : Sem Bool} (he : PE X o ta) (c : Cls X.K C) (hm : Meth X.K C m f) (F : FnOk X.prog X.w X.K X.mg X.base CX k f fd ps sp) (hr : Room k X.A) (hb : Binds X.K fd ps ds) (hd : Vals dvs ds) (hx : ∀ σ, PassesAt CX X σ (E σ)) (ha : PA X (e :: es) t)
    (hst : starEach (e :: es) X.env = (false, eval e X.env) :: starEach es X.env := by rfl) (hpl : (backTo pos (starEach es X.env)).any (·.1) = false := by rfl)
    (ht : eval (.Call (.Attribute o m apos) (e :: es) [] pos) X.env = (do
      let ov ← eval o X.env
      standAt apos.atName
      let (f, first) ← holding [ov] (getMethod ov m pl)
      callWith pos f first (backTo pos (starEach (e :: es) X.env)) (backToKw pos (keywordEach [] X.env))) := by rfl) :
    PE X (.Call (.Attribute o m apos) (e :: es) [] pos) (tMethSD C m sp dvs E ta t) := by
  refine ⟨fun pins s σ H Q I h => ?_⟩
  refine PySem.W.methodCall_KW (pl := pl) (thn (he.run pins s σ H _ I h) fun u s1 ⟨x, H1, I1, rx, a, dx, fs, ex, ea, l, q⟩ => ?_) ht
  subst ex
  obtain rfl : u = Value.ref a := rx
  refine getmeth_ok I1 ea c hm l ?_
  refine PySem.W.callWith_K (first := [.ref a]) (h₀ := X.base) I.ok.mod.kin hm.kp (thn (ha.run pos pins s1 σ H1 _ I1 q) fun us s2 ⟨vs, H2, I2, r, q2⟩ => ⟨I2.kIn, ?_⟩) hst hpl
  exact run_fnSD (us := .ref a :: us) (vs := .ref a :: vs) F hr hb hd (hx σ) I2 (.cons rfl r) q2
theorem pe_methSD0 {pl : Sem Bool} (he : PE X o ta) (c : Cls X.K C) (hm : Meth X.K C m f) (F : FnOk X.prog X.w X.K X.mg X.base CX k f fd ps sp) (hr : Room k X.A) (hb : Binds X.K fd ps ds) (hd : Vals dvs ds) (hx : ∀ σ, PassesAt CX X σ (E σ))
    (ht : eval (.Call (.Attribute o m apos) [] [] pos) X.env = (do
      let ov ← eval o X.env
      standAt apos.atName
      let (f, first) ← holding [ov] (getMethod ov m pl)
      callWith pos f first (backTo pos (starEach [] X.env)) (backToKw pos (keywordEach [] X.env))) := by rfl) :
    PE X (.Call (.Attribute o m apos) [] [] pos) (tMethSD C m sp dvs E ta tNil) := by
  refine ⟨fun pins s σ H Q I h => ?_⟩
  refine PySem.W.methodCall_KW (pl := pl) (thn (he.run pins s σ H _ I h) fun u s1 ⟨x, H1, I1, rx, a, dx, fs, ex, ea, l, q⟩ => ?_) ht
  subst ex
  obtain rfl : u = Value.ref a := rx
  refine getmeth_ok I1 ea c hm l ?_
  exact PySem.W.callWith_K0 (first := [.ref a]) I1.kIn hm.kp (run_fnSD (us := [.ref a]) (vs := [.ref a]) F hr hb hd (hx σ) I1 (.cons rfl .nil) q)
end

/-! ### own errors with one field -/
/-- what __init__ of such an error does: self.f = v -/
def spXI (C : Addr) (f : Str) : Sp := fun vs H Q _ => ∃ (a : Addr) (y : V), vs = [.ref a, y] ∧ H a = some (exo a C none) ∧ ∀ dx, H dx = none → dx ≠ a → Q .non (upd (upd H dx (exd dx [(f, y)])) a (exo a C (some dx)))
/-- all that is asked of the class x of errors at C, whose field is f -/
structure XCls (P : Program) (w : World) (K : PySem.W.Frag) (mg : Str → Option Value) (base : Heap) (x f : Str) (C : Addr) : Prop where
  ox : OexC K C
  gC : mg x = some (.ref C)
  noA : PySem.W.findIn K (.ref C) f = some none
  ec : ExcC K C
  ini : ∃ (fI : Addr) (fd : FuncData), PySem.W.findIn K (.ref C) "__init__" = some (some (.ref fI)) ∧ PySem.W.typeIn K (.ref fI) = some (.type "function") ∧ FnOk P w K mg base CX0 1 fI fd ["self", f] (spXI C f) ∧ Binds K fd ["self", f] []
theorem XCls.xf {P : Program} {w : World} {K : PySem.W.Frag} {mg : Str → Option Value} {base : Heap} {x f : Str} {C : Addr} (T : XCls P w K mg base x f C) : XfC K C := ⟨T.ec.hg, T.ec.hk, T.ec.hs, T.ec.hd⟩
section
variable {X : Cx} {C : Addr} {x f : Str} {e : Expr} {te : TE} {p pos pos2 : Pos}
theorem pmk_X (T : XCls X.prog X.w X.K X.mg X.base x f C) (hr : Room 2 X.A) (he : PE X e te) (hg : Gl X x) (hdb : (x == ("__debug__" : Str)) = false := by decide)
    (hs : starEach [e] X.env = (false, eval e X.env) :: starEach [] X.env := by rfl) (hpl : (backTo pos (starEach [] X.env)).any (·.1) = false := by rfl) :
    PMk X (.Call (.Name x p) [e] [] pos) (tMkO C (spXI C f) [] (tCons te tNil)) := by
  obtain ⟨fI, fd, i1, i2, F, b⟩ := T.ini
  exact pmk_oex (dvs := []) (ds := []) T.ox i1 i2 F hr b .nil pass0 hg T.gC (pa_cons he pa_nil hs) hdb hs hpl
/-- what is left to be shown behind the argument y -/
theorem mkX_fin {H1 : Hp} {y : V} {Q : XK} (h : ∀ d, H1 d = none → Q (.ref C) (some d) (upd H1 d (.xd [(f, y)]))) :
    [y].length ≤ 1000 ∧ ∀ a, H1 a = none → spXI C f (.ref a :: ([y] ++ [])) (upd H1 a (exo a C none))
      (fun v H2 => v = .non ∧ ∃ (d : Addr) (fs : List (Str × V)), H2 a = some (exo a C (some d)) ∧ H2 d = some (exd d fs) ∧ H1 d = none ∧ Q (.ref C) (some d) (upd (del H2 a) d (.xd fs))) (fun _ _ _ => False) := by
  refine ⟨by show 1 ≤ 1000; decide, fun a ha => ⟨a, y, rfl, upd_same, fun dx hdx hne => ⟨rfl, dx, [(f, y)], upd_same, ?_, ?_, ?_⟩⟩⟩
  · rw [upd_ne hne, upd_same]
  · rw [upd_ne hne] at hdx
    exact hdx
  · have hdx' : H1 dx = none := by
      rw [upd_ne hne] at hdx
      exact hdx
    have e : upd (del (upd (upd (upd H1 a (exo a C none)) dx (exd dx [(f, y)])) a (exo a C (some dx))) a) dx (.xd [(f, y)]) = upd H1 dx (.xd [(f, y)]) := by
      funext b
      by_cases hb : b = dx
      · rw [hb, upd_same, upd_same]
      · rw [upd_ne hb, upd_ne hb]
        by_cases hba : b = a
        · rw [hba, del_same, ha]
        · rw [del_ne hba, upd_ne hba, upd_ne hb, upd_ne hba]
    rw [e]
    exact h dx hdx'
end
end L2

set_option Elab.async false
set_option maxRecDepth 100000
set_option maxHeartbeats 4000000
namespace L2
open PySem PySem.Spec PyProof.Rows
section
variable (P : Program) (w : World) (K : PySem.W.Frag) (mg : Str → Option Value) (base : Heap)
/-- a def of the top, as the text has it -/
structure DefAt (x : Str) (st : Stmt) (ps : List Str) : Prop where
  ex : ∃ (f : Addr) (fd : FuncData), Fun K x x st f fd ∧ mg x = some (.ref f) ∧ Binds K fd ps []
/-- a def of the top that keeps its promise -/
structure Own (CX : CXT) (x : Str) (k : Nat) (ps : List Str) (sp : Sp) : Prop where
  ex : ∃ (f : Addr) (fd : FuncData), FnOk P w K mg base CX k f fd ps sp ∧ mg x = some (.ref f) ∧ PySem.W.keepIn K (.ref f) = true ∧ Binds K fd ps []
/-- a method of the class at C, as the text has it; one that keeps its promise -/
structure MethAt (C : Addr) (m qual : Str) (st : Stmt) (ps : List Str) : Prop where
  ex : ∃ (f : Addr) (fd : FuncData), Fun K m qual st f fd ∧ PySem.W.findIn K (.ref C) m = some (some (.ref f)) ∧ PySem.W.isFn K (.ref f) = true ∧ Binds K fd ps []
structure OwnM (CX : CXT) (C : Addr) (m : Str) (k : Nat) (ps : List Str) (sp : Sp) : Prop where
  ex : ∃ (f : Addr) (fd : FuncData), FnOk P w K mg base CX k f fd ps sp ∧ Meth K C m f ∧ PySem.W.isFn K (.ref f) = true ∧ Binds K fd ps []
/-- a class of the top with an own __init__ that keeps its promise -/
structure OwnC (CX : CXT) (x : Str) (C : Addr) (k : Nat) (ps : List Str) (sp : Sp) : Prop where
  ex : ∃ (f : Addr) (fd : FuncData), FnOk P w K mg base CX k f fd ps sp ∧ Mk K C f ∧ mg x = some (.ref C) ∧ Binds K fd ps []
end
section
variable {P : Program} {w : World} {K : PySem.W.Frag} {mg : Str → Option Value} {base : Heap} {CX : CXT} {x m qual : Str} {k : Nat} {ps : List Str} {sp : Sp} {st : Stmt} {C : Addr}
theorem DefAt.own (D : DefAt K mg x st ps) (h : ∀ f fd, Fun K x x st f fd → FnOk P w K mg base CX k f fd ps sp) : Own P w K mg base CX x k ps sp := by
  obtain ⟨f, fd, F, hm, hb⟩ := D.ex
  exact ⟨f, fd, h f fd F, hm, F.kp, hb⟩
theorem MethAt.own (D : MethAt K C m qual st ps) (h : ∀ f fd, Fun K m qual st f fd → FnOk P w K mg base CX k f fd ps sp) : OwnM P w K mg base CX C m k ps sp := by
  obtain ⟨f, fd, F, hm, hi, hb⟩ := D.ex
  exact ⟨f, fd, h f fd F, ⟨hm, hi, F.kp⟩, hi, hb⟩
theorem MethAt.cls (D : MethAt K C "__init__" qual st ps) (h : ∀ f fd, Fun K "__init__" qual st f fd → FnOk P w K mg base CX k f fd ps sp) (m1 : PySem.W.makesIn K C = true) (m2 : PySem.W.keepIn K (.ref C) = true) (m3 : mg x = some (.ref C)) :
    OwnC P w K mg base CX x C k ps sp := by
  obtain ⟨f, fd, F, hm, hi, hb⟩ := D.ex
  exact ⟨f, fd, h f fd F, ⟨m1, hm, hi, m2⟩, m3, hb⟩
end
section
variable {X : Cx} {CX : CXT} {x m : Str} {k : Nat} {ps : List Str} {sp : Sp} {e o : Expr} {es : List Expr} {t : TA} {ta : TE} {p pos apos : Pos} {C : Addr}
theorem pe_own (O : Own X.prog X.w X.K X.mg X.base CX x k ps sp) (hr : Room k X.A) (hx : Passes CX X E0) (ha : PA X (e :: es) t) (hg : Gl X x := by rfl) (hdb : (x == ("__debug__" : Str)) = false := by decide)
    (he : starEach (e :: es) X.env = (false, eval e X.env) :: starEach es X.env := by rfl) (hpl : (backTo pos (starEach es X.env)).any (·.1) = false := by rfl) : PE X (.Call (.Name x p) (e :: es) [] pos) (tCall sp [] E0 t) := by
  obtain ⟨f, fd, F, hm, hk, hb⟩ := O.ex
  exact pe_call F hr hg hm hk hb .nil hx ha hdb he hpl
theorem pe_own0 (O : Own X.prog X.w X.K X.mg X.base CX x k ps sp) (hr : Room k X.A) (hx : Passes CX X E0) (hg : Gl X x := by rfl) (hdb : (x == ("__debug__" : Str)) = false := by decide) : PE X (.Call (.Name x p) [] [] pos) (tCall sp [] E0 tNil) := by
  obtain ⟨f, fd, F, hm, hk, hb⟩ := O.ex
  exact pe_call0 F hr hg hm hk hb .nil hx hdb
/-- one that may raise; W is wished for what it raises -/
theorem pe_ownS {W : WX} (O : Own X.prog X.w X.K X.mg X.base (L2.CX X.prog X.w) x k ps sp) (hr : Room k X.A) (tk : Takes X W) (ha : PA X (e :: es) t) (hg : Gl X x := by rfl) (hdb : (x == ("__debug__" : Str)) = false := by decide)
    (he : starEach (e :: es) X.env = (false, eval e X.env) :: starEach es X.env := by rfl) (hpl : (backTo pos (starEach es X.env)).any (·.1) = false := by rfl) : PE X (.Call (.Name x p) (e :: es) [] pos) (tCallS sp (WE W) t) := by
  obtain ⟨f, fd, F, hm, hk, hb⟩ := O.ex
  exact pe_callS F hr hg hm hk hb (fun σ => passAt tk σ) ha hdb he hpl
theorem pe_new (O : OwnC X.prog X.w X.K X.mg X.base CX x C k ps sp) (hr : Room (k + 1) X.A) (hx : Passes CX X E0) (ha : PA X (e :: es) t) (hg : Gl X x := by rfl) (hdb : (x == ("__debug__" : Str)) = false := by decide)
    (he : starEach (e :: es) X.env = (false, eval e X.env) :: starEach es X.env := by rfl) (hpl : (backTo pos (starEach es X.env)).any (·.1) = false := by rfl) : PE X (.Call (.Name x p) (e :: es) [] pos) (tMake C sp [] E0 t) := by
  obtain ⟨f, fd, F, M, hm, hb⟩ := O.ex
  exact pe_make M F hr hg hm hb .nil hx ha hdb he hpl
theorem pe_newS {W : WX} (O : OwnC X.prog X.w X.K X.mg X.base (L2.CX X.prog X.w) x C k ps sp) (hr : Room (k + 1) X.A) (tk : Takes X W) (ha : PA X (e :: es) t) (hg : Gl X x := by rfl) (hdb : (x == ("__debug__" : Str)) = false := by decide)
    (he : starEach (e :: es) X.env = (false, eval e X.env) :: starEach es X.env := by rfl) (hpl : (backTo pos (starEach es X.env)).any (·.1) = false := by rfl) : PE X (.Call (.Name x p) (e :: es) [] pos) (tMakeS C sp [] (WE W) t) := by
  obtain ⟨f, fd, F, M, hm, hb⟩ := O.ex
  exact pe_makeS M F hr hg hm hb .nil (fun σ => passAt tk σ) ha hdb he hpl
theorem pe_gint {n : Int} (hm : ∃ t, X.mg x = some (.int n t)) (hg : Gl X x := by rfl) (hd : (x == ("__debug__" : Str)) = false := by decide) : PE X (.Name x pos) (tC (.int n)) := by
  obtain ⟨t, hm⟩ := hm
  exact pe_glob hg hm ⟨t, rfl⟩ hd
theorem pe_gcls (hm : X.mg x = some (.ref C)) (hg : Gl X x := by rfl) (hd : (x == ("__debug__" : Str)) = false := by decide) : PE X (.Name x pos) (tC (.ref C)) := pe_glob hg hm rfl hd
end
/-! ### ==, != by own methods, len -/
section
variable {X : Cx} {CX : CXT} {k : Nat} {C : Addr} {ps : List Str} {sp : Sp}
structure NeM (K : PySem.W.Frag) (C : Addr) : Prop where
  ne : PySem.W.findIn K (.ref C) "__ne__" = some (some (.builtin "object.__ne__"))
  ob : PySem.W.mroIn K C (.type "object") = some true
theorem eqO (O : OwnM X.prog X.w X.K X.mg X.base CX C "__eq__" k ps sp) (N : NeM X.K C) (hr : Room k X.A) (hx : Passes CX X E0) : OpR X (compareOp .Eq) (rEqO X.K C sp) := by
  obtain ⟨f, fd, F, M, hi, hb⟩ := O.ex
  exact op_eqO F ⟨M.at_, hi, N.ne, N.ob⟩ hr hb hx
theorem neO (O : OwnM X.prog X.w X.K X.mg X.base CX C "__eq__" k ps sp) (N : NeM X.K C) (hr : Room (k + 1) X.A) (hx : Passes CX X E0) : OpR X (compareOp .NotEq) (rNeO X.K C sp) := by
  obtain ⟨f, fd, F, M, hi, hb⟩ := O.ex
  exact op_neO F ⟨M.at_, hi, N.ne, N.ob⟩ hr hb hx
theorem lenO (O : OwnM X.prog X.w X.K X.mg X.base CX C "__len__" k ps sp) (hr : Room (k + 1) X.A) (hx : Passes CX X E0) : CallR X (.builtin "len") (rLenO C sp) := by
  obtain ⟨f, fd, F, M, hi, hb⟩ := O.ex
  exact call_lenO F M.at_ hi hr hb hx
end
end L2

set_option Elab.async false
set_option maxRecDepth 100000
set_option maxHeartbeats 4000000
/-! kinds of plain values; their isinstance -/
namespace L2
open PySem PySem.Spec PyProof.Rows
inductive Knd | int | bool | none | str | list | tuple
  deriving DecidableEq
def Knd.name : Knd → String
  | .int => "int" | .bool => "bool" | .none => "NoneType" | .str => "str" | .list => "list" | .tuple => "tuple"
def KndOf (H : Hp) (v : V) : Knd → Prop
  | .int => ∃ n, v = .int n
  | .bool => ∃ b, v = .bl b
  | .none => v = .non
  | .str => ∃ s, v = .str s
  | .list => ∃ a xs, v = .ref a ∧ H a = some (.lst xs)
  | .tuple => ∃ a xs, v = .ref a ∧ H a = some (.tup xs)
def Knd.isInt : Knd → Bool | .int => true | .bool => true | _ => false
def Knd.isBool : Knd → Bool | .bool => true | _ => false
def Knd.isSeq : Knd → Bool | .list => true | .tuple => true | _ => false
def Knd.isTup : Knd → Bool | .tuple => true | _ => false
def Knd.isList : Knd → Bool | .list => true | _ => false
def Knd.isStr : Knd → Bool | .str => true | _ => false
section
variable {K : PySem.W.Frag} {H : Hp} {v : V} {k : Knd}
theorem knd_ty (h : KndOf H v k) : TyX K H v (.type k.name) := by
  cases k with
  | int => obtain ⟨n, rfl⟩ := h; exact .base (.int n)
  | bool => obtain ⟨n, rfl⟩ := h; exact .base (.bl n)
  | none => cases h; exact .base .non
  | str => obtain ⟨n, rfl⟩ := h; exact .base (.str n)
  | list => obtain ⟨a, xs, rfl, e⟩ := h; exact .base (.lst e)
  | tuple => obtain ⟨a, xs, rfl, e⟩ := h; exact .base (.tup e)
theorem knd_int : PySem.W.kitOne K (.type k.name) (.type "int") = some k.isInt := by cases k <;> exact kit_ty (by decide +kernel)
theorem knd_bool : PySem.W.kitOne K (.type k.name) (.type "bool") = some k.isBool := by cases k <;> exact kit_ty (by decide +kernel)
theorem knd_tup : PySem.W.kitOne K (.type k.name) (.type "tuple") = some k.isTup := by cases k <;> exact kit_ty (by decide +kernel)
theorem knd_list : PySem.W.kitOne K (.type k.name) (.type "list") = some k.isList := by cases k <;> exact kit_ty (by decide +kernel)
theorem knd_str : PySem.W.kitOne K (.type k.name) (.type "str") = some k.isStr := by cases k <;> exact kit_ty (by decide +kernel)
theorem knd_seq : PySem.W.kitAny K (.type k.name) [.type "list", .type "tuple"] = some k.isSeq := by
  cases k
  case list => exact kitAny_cons knd_list (by intro h; cases h) (fun _ => rfl)
  case tuple => exact kitAny_cons knd_list (fun _ => kitAny_cons knd_tup (by intro h; cases h) (fun _ => rfl)) (by intro h; cases h)
  all_goals exact kitAny_cons knd_list (fun _ => kitAny_cons knd_tup (fun _ => kitAny_nil) (by intro h; cases h)) (by intro h; cases h)
theorem KndOf.ext {H' : Hp} (h : KndOf H v k) (e : Ext H H') : KndOf H' v k := by
  cases k with
  | list => obtain ⟨a, xs, r, q⟩ := h; exact ⟨a, xs, r, e _ _ q⟩
  | tuple => obtain ⟨a, xs, r, q⟩ := h; exact ⟨a, xs, r, e _ _ q⟩
  | _ => exact h
theorem ki (n : Int) : KndOf H (.int n) .int := ⟨n, rfl⟩
theorem kb (n : Bool) : KndOf H (.bl n) .bool := ⟨n, rfl⟩
theorem kn : KndOf H .non .none := rfl
theorem ks (n : Str) : KndOf H (.str n) .str := ⟨n, rfl⟩
end
/-- a value that is an int from a to b -/
def betw (v : V) (a b : Int) : Bool := match v with
  | .int n => decide (a ≤ n) && decide (n ≤ b)
  | _ => false
theorem betw_int {n a b : Int} : betw (.int n) a b = (decide (a ≤ n) && decide (n ≤ b)) := rfl
theorem betw_not {H : Hp} {v : V} {k : Knd} {a b : Int} (h : KndOf H v k) (hk : (k.isInt && !k.isBool) = false) : betw v a b = false := by
  cases k with
  | int => cases hk
  | bool => obtain ⟨n, rfl⟩ := h; rfl
  | none => cases h; rfl
  | str => obtain ⟨n, rfl⟩ := h; rfl
  | list => obtain ⟨n, xs, rfl, _⟩ := h; rfl
  | tuple => obtain ⟨n, xs, rfl, _⟩ := h; rfl
theorem knd_yes {k : Knd} (h : (k.isInt && !k.isBool) = true) : k = .int := by cases k <;> first | rfl | cases h
/-! ### isinstance, read -/
section
variable {K : PySem.W.Frag} {σ : St} {H : Hp} {v : V} {k : Knd} {Q : VK} {te : TE}
theorem v_isI (hk : KndOf H v k) {b : Bool} {c : String} (e : PySem.W.kitOne K (.type k.name) (.type c) = some b) (q : Q (.bl b) H) : rIsi K [v, .ty c] H Q :=
  ⟨v, .ty c, .type k.name, .type c, b, rfl, .ty c, knd_ty hk, e, q⟩
end
end L2

set_option Elab.async false
set_option maxRecDepth 100000
set_option maxHeartbeats 4000000
namespace L2
open PySem PySem.Spec PyProof.Rows
section
variable {K : PySem.W.Frag} {C : Addr}
theorem no_ref (l : List String) : (l.map Value.type).contains (Value.ref C) = false := by
  induction l with
  | nil => rfl
  | cons a l ih =>
    rw [List.map_cons, List.contains_cons, ih]
    rfl
theorem sub_ty_ref {T : String} (h : (fastFind? T).isSome = true) : PySem.W.subIn K (.type T) (.ref C) = some false := by
  obtain ⟨r, hr⟩ := Option.isSome_iff_exists.mp h
  show (fastBuiltinMro T).map (·.contains (Value.ref C)) = some false
  unfold fastBuiltinMro
  rw [hr]
  show some ((r.mro.map Value.type).contains (Value.ref C)) = some false
  rw [no_ref]
theorem knd_find (k : Knd) : (fastFind? k.name).isSome = true := by cases k <;> decide +kernel
/-- all that is asked of an own plain class x at C -/
structure ClsX (K : PySem.W.Frag) (mg : Str → Option Value) (x : Str) (C : Addr) : Prop where
  gC : mg x = some (.ref C)
  cl : Cls K C
  ha : PySem.W.findIn K (.ref C) "__class__" = some (some (.builtin "object.__class__"))
  hn : PySem.W.specialIn K (.builtin "object.__class__") "__get__" = some (some (.builtin "getset_descriptor.__get__"))
  htk : PySem.W.takesIn K (.builtin "object.__class__") = some true
  hm : PySem.W.mroIn K C (.type "object") = some true
  ne : PySem.W.findIn K (.ref C) "__ne__" = some (some (.builtin "object.__ne__"))
  is : PySem.W.isClsIn K C = true
  ty : PySem.W.typeIn K (.ref C) = some (.type "type")
  tup : PySem.W.subIn K (.ref C) (.type "tuple") = some false
  lst : PySem.W.subIn K (.ref C) (.type "list") = some false
  int : PySem.W.subIn K (.ref C) (.type "int") = some false
  str : PySem.W.subIn K (.ref C) (.type "str") = some false
variable {mg : Str → Option Value} {x : Str}
theorem ClsX.neM (T : ClsX K mg x C) : NeM K C := ⟨T.ne, T.hm⟩
theorem ClsX.tyOf (T : ClsX K mg x C) {H : Hp} {a dx : Addr} {fs : List (Str × V)} (e : H a = some (.ins C dx fs)) : TyX K H (.ref a) (.ref C) := .base (.ins e T.cl T.ha T.hn T.htk T.hm)
theorem ClsX.me (_ : ClsX K mg x C) : PySem.W.kitOne K (.ref C) (.ref C) = some true := if_pos (beq_self_eq_true _)
theorem ClsX.nfMe (_ : ClsX K mg x C) : PySem.W.notFirst K C (.ref C) = true := by
  show (Value.ref C == Value.ref C || _) = true
  rw [beq_self_eq_true]
  rfl
theorem ClsX.kitB (T : ClsX K mg x C) {t : Value} {b : Bool} (h : PySem.W.subIn K t (.ref C) = some b) (hne : (t == .ref C) = false) : PySem.W.kitOne K t (.ref C) = some b := by
  have e : ((PySem.W.clsIn K C).isSome && PySem.W.typeIn K (.ref C) == some (.type "type")) = true := by
    have h1 : (PySem.W.clsIn K C).isSome = true := T.is
    rw [h1, T.ty]
    rfl
  show (if (t == Value.ref C) = true then some true else if ((PySem.W.clsIn K C).isSome && PySem.W.typeIn K (.ref C) == some (.type "type")) = true then PySem.W.subIn K t (.ref C) else none) = some b
  rw [hne, if_neg Bool.false_ne_true, if_pos e]
  exact h
theorem ClsX.kitK (T : ClsX K mg x C) (k : Knd) : PySem.W.kitOne K (.type k.name) (.ref C) = some false := T.kitB (sub_ty_ref (knd_find k)) rfl
theorem ClsX.nfK (_ : ClsX K mg x C) (k : Knd) : PySem.W.notFirst K C (.type k.name) = true := by
  show (Value.type k.name == Value.ref C || PySem.W.subIn K (.type k.name) (.ref C) == some false) = true
  rw [sub_ty_ref (knd_find k)]
  exact Bool.or_eq_true_iff.mpr (.inr (by decide))
theorem kit_meta {T : String} {b : Bool} (h : PySem.W.subIn K (.ref C) (.type T) = some b) (hm : PySem.W.kitMeta T = true) : PySem.W.kitOne K (.ref C) (.type T) = some b := by
  show (if (Value.ref C == Value.type T) = true then some true else if PySem.W.kitMeta T = true then PySem.W.subIn K (.ref C) (.type T) else none) = some b
  rw [show (Value.ref C == Value.type T) = false from rfl, if_neg Bool.false_ne_true, if_pos hm]
  exact h
theorem ClsX.kTup (T : ClsX K mg x C) : PySem.W.kitOne K (.ref C) (.type "tuple") = some false := kit_meta T.tup (by decide +kernel)
theorem ClsX.kInt (T : ClsX K mg x C) : PySem.W.kitOne K (.ref C) (.type "int") = some false := kit_meta T.int (by decide +kernel)
theorem ClsX.kLst (T : ClsX K mg x C) : PySem.W.kitOne K (.ref C) (.type "list") = some false := kit_meta T.lst (by decide +kernel)
theorem ClsX.kStr (T : ClsX K mg x C) : PySem.W.kitOne K (.ref C) (.type "str") = some false := kit_meta T.str (by decide +kernel)
end
/-! ### an own error's class, from what the top has written -/
section
variable {P : Program} {w : World} {K : PySem.W.Frag} {mg : Str → Option Value} {base : Heap} {x f : Str} {C : Addr}
/-- what k_is finds of the class -/
structure XAt (K : PySem.W.Frag) (mg : Str → Option Value) (x f : Str) (C : Addr) (st : Stmt) (qual : Str) : Prop where
  ox : OexC K C
  gC : mg x = some (.ref C)
  noA : PySem.W.findIn K (.ref C) f = some none
  ec : ExcC K C
  tI : ∃ fI, PySem.W.findIn K (.ref C) "__init__" = some (some (.ref fI)) ∧ PySem.W.typeIn K (.ref fI) = some (.type "function") ∧ ∃ fd, Fun K "__init__" qual st fI fd ∧ Binds K fd ["self", f] []
theorem XAt.cls {st : Stmt} {qual : Str} (T : XAt K mg x f C st qual) (h : ∀ fI fd, Fun K "__init__" qual st fI fd → FnOk P w K mg base CX0 1 fI fd ["self", f] (spXI C f)) : XCls P w K mg base x f C := by
  obtain ⟨fI, i1, i2, fd, F, b⟩ := T.tI
  exact ⟨T.ox, T.gC, T.noA, T.ec, fI, fd, i1, i2, h fI fd F, b⟩
end
/-! ### fields -/
section
theorem lk_put {f g : Str} {v : V} {fs : List (Str × V)} : List.lookup g ((f, v) :: fs) = if (g == f) = true then some v else List.lookup g fs := by
  simp only [List.lookup]
  split
  · rename_i h; rw [h, if_pos rfl]
  · rename_i h; rw [h, if_neg Bool.false_ne_true]
end
end L2

set_option Elab.async false
set_option maxRecDepth 100000
set_option maxHeartbeats 4000000
/-! plain data: lists and tuples of flat values, compared -/
namespace L2
open PySem PySem.Spec PyProof.Rows
def pd : V → PyData
  | .int i => .int i
  | .bl b => .bool b
  | .str s => .str s
  | _ => .none
/-- flat, its text (if it is one) within the model's signs -/
def Fl : V → Prop
  | .int _ => True
  | .bl _ => True
  | .non => True
  | .str s => PySem.PyData.canLay0 (.str s) = true
  | _ => False
section
variable {K : PySem.W.Frag} {H : Hp} {v u : V}
theorem dp_fl (h : Fl v) : Dp K H v (pd v) := by
  cases v <;> first | exact .int _ | exact .bl _ | exact .str _ | exact .non | exact h.elim
theorem dp_all : ∀ {vs : List V}, (∀ v ∈ vs, Fl v) → DpAll K H vs (vs.map pd)
  | [], _ => .nil
  | v :: vs, h => .cons (dp_fl (h v List.mem_cons_self)) (dp_all fun u hu => h u (List.mem_cons_of_mem _ hu))
theorem lay_fl (h : Fl v) : (pd v).canLay0 = true := by
  cases v <;> first | rfl | exact h | exact h.elim
theorem dep_fl : (pd v).depth = 0 := by cases v <;> rfl
theorem lay_all : ∀ {vs : List V}, (∀ v ∈ vs, Fl v) → PyData.canLayAll0 (vs.map pd) = true ∧ PyData.depthAll (vs.map pd) = 0
  | [], _ => ⟨rfl, rfl⟩
  | v :: vs, h => by
    obtain ⟨a, b⟩ := lay_all (vs := vs) fun u hu => h u (List.mem_cons_of_mem _ hu)
    constructor
    · show ((pd v).canLay0 && PyData.canLayAll0 (vs.map pd)) = true
      rw [lay_fl (h v List.mem_cons_self), a]
      rfl
    · show max (pd v).depth (PyData.depthAll (vs.map pd)) = 0
      rw [dep_fl, b]
      rfl
theorem shp_fl (h : Fl v) : SeqAt.shaped (pd v) = true := by
  show ((pd v).canLay0 && decide ((pd v).depth ≤ 64)) = true
  rw [lay_fl h, dep_fl]
  rfl
theorem shp_tup {vs : List V} (h : ∀ v ∈ vs, Fl v) : SeqAt.shaped (.tuple (vs.map pd)) = true := by
  obtain ⟨a, b⟩ := lay_all h
  show (PyData.canLayAll0 (vs.map pd) && decide (PyData.depthAll (vs.map pd) + 1 ≤ 64)) = true
  rw [a, b]
  rfl
theorem shp_lst {vs : List V} (h : ∀ v ∈ vs, Fl v) : SeqAt.shaped (.list (vs.map pd)) = true := by
  obtain ⟨a, b⟩ := lay_all h
  show (PyData.canLayAll0 (vs.map pd) && decide (PyData.depthAll (vs.map pd) + 1 ≤ 64)) = true
  rw [a, b]
  rfl
theorem fl_int (n : Int) : Fl (.int n) := trivial
theorem fl_ints {ns : List Int} : ∀ v ∈ ns.map V.int, Fl v := fun v hv => by
  obtain ⟨n, _, rfl⟩ := List.mem_map.mp hv
  trivial
theorem eqv_ints : ∀ (ns ms : List Int), PyData.eqvAll ((ns.map V.int).map pd) ((ms.map V.int).map pd) = decide (ns = ms)
  | [], [] => rfl
  | [], _ :: _ => rfl
  | _ :: _, [] => rfl
  | n :: ns, m :: ms => by
    show ((n == m) && PyData.eqvAll ((ns.map V.int).map pd) ((ms.map V.int).map pd)) = decide (n :: ns = m :: ms)
    rw [eqv_ints ns ms, Bool.eq_iff_iff]
    simp
/-- the same values are equal data -/
theorem eqv_same : ∀ {vs : List V}, (∀ v ∈ vs, Fl v) → PyData.eqvAll (vs.map pd) (vs.map pd) = true
  | [], _ => rfl
  | v :: vs, h => by
    show (PyData.eqv (pd v) (pd v) && PyData.eqvAll (vs.map pd) (vs.map pd)) = true
    rw [eqv_same (vs := vs) fun u hu => h u (List.mem_cons_of_mem _ hu), Bool.and_true]
    cases v <;> first | rfl | (show (_ == _) = true; exact beq_self_eq_true _)
/-- two tuples compared (op_eqD, op_neD): what is left -/
theorem eqD_tup {p q : Addr} {vs us : List V} {Q : VK} (hp : SqT K H p vs) (hq : SqT K H q us) (fv : ∀ v ∈ vs, Fl v) (fu : ∀ v ∈ us, Fl v) (h : Q (.bl (PyData.eqvAll (vs.map pd) (us.map pd))) H) : rEqD K (.ref p) (.ref q) H Q :=
  ⟨_, _, .tup hp (dp_all fv), .tup hq (dp_all fu), shp_tup fv, shp_tup fu, h⟩
theorem neD_tup {p q : Addr} {vs us : List V} {Q : VK} (hp : SqT K H p vs) (hq : SqT K H q us) (fv : ∀ v ∈ vs, Fl v) (fu : ∀ v ∈ us, Fl v) (h : Q (.bl (!PyData.eqvAll (vs.map pd) (us.map pd))) H) : rNeD K (.ref p) (.ref q) H Q :=
  ⟨_, _, .tup hp (dp_all fv), .tup hq (dp_all fu), shp_tup fv, shp_tup fu, h⟩
theorem eqD_lst {p q : Addr} {vs us : List V} {Q : VK} (hp : SqL K H p vs) (hq : SqL K H q us) (fv : ∀ v ∈ vs, Fl v) (fu : ∀ v ∈ us, Fl v) (h : Q (.bl (PyData.eqvAll (vs.map pd) (us.map pd))) H) : rEqD K (.ref p) (.ref q) H Q :=
  ⟨_, _, .lst hp (dp_all fv), .lst hq (dp_all fu), shp_lst fv, shp_lst fu, h⟩
theorem neD_lst {p q : Addr} {vs us : List V} {Q : VK} (hp : SqL K H p vs) (hq : SqL K H q us) (fv : ∀ v ∈ vs, Fl v) (fu : ∀ v ∈ us, Fl v) (h : Q (.bl (!PyData.eqvAll (vs.map pd) (us.map pd))) H) : rNeD K (.ref p) (.ref q) H Q :=
  ⟨_, _, .lst hp (dp_all fv), .lst hq (dp_all fu), shp_lst fv, shp_lst fu, h⟩
end
end L2

set_option Elab.async false
set_option maxRecDepth 100000
set_option maxHeartbeats 4000000
namespace L2
open PySem PySem.Spec PyProof.Rows
section
variable {X : Cx}
/-- range(j), kept -/
theorem cr_range1 : CallR X (.type "range") (fun vs H Q => ∃ j, vs = [V.int j] ∧ ∀ p, H p = none → Q (.ref p) (upd H p (.rng 0 j))) := by
  intro pins s σ H vs us Q I r h
  obtain ⟨j, rfl, q⟩ := h
  obtain ⟨u1, rfl, rj⟩ := vals1 r
  obtain ⟨t, rfl⟩ := rj
  refine call_range_1 ⟨.ref s.heap.objs.size, upd H s.heap.objs.size (.rng 0 j), I.laid (t' := s.toks + 1 + 1) (fun b o e => Heap.get?_push_of_some _ e) (Nat.le_refl _) ?_, rfl, q _ (I.hok.fresh (Nat.le_refl _))⟩
  exact ⟨s.toks, t, s.toks + 1, Heap.get?_push_size _ rfl⟩
/-- len of a range -/
theorem call_lenR : CallR X (.builtin "len") (fun xs H Q => ∃ a lo hi, xs = [.ref a] ∧ H a = some (.rng lo hi) ∧ (hi - lo).toNat < 2 ^ 62 ∧ Q (.int ((hi - lo).toNat : Int)) H) := by
  intro pins s σ H xs us Q I r h
  obtain ⟨a, lo, hi, rfl, ha, hz, q⟩ := h
  rw [Vals.ref1 r]
  obtain ⟨t, u, v, ho⟩ := I.hok a _ ha
  exact call_len_range (n := (hi - lo).toNat) ho (rangeSize_nat lo hi) (by omega) ⟨.int ((hi - lo).toNat : Int), H, I.tok _, ⟨_, rfl⟩, q⟩
/-- sum of a tuple of ints -/
def rSumT (K : PySem.W.Frag) : List V → Hp → VK → Prop := fun vs H Q => ∃ (a : Addr) (ns : List Int), vs = [V.ref a] ∧ SqT K H a (ns.map V.int) ∧ Q (.int ns.sum) H
theorem cr_sumT (hc : X.calm = true) : CallR X (.builtin "sum") (rSumT X.K) := by
  intro pins s σ H vs us Q I r h
  obtain ⟨a, ns, rfl, hs, q⟩ := h
  obtain ⟨its, rv, hl, _⟩ := I.tuple hs
  rw [Vals.ref1 r]
  have hi := rv.ints
  obtain ⟨xs, e⟩ := hi.allInts.items
  have hn : numsOf (intItems xs).toList = ns := by rw [← e]; exact hi.numsOf
  rw [nums_intItems] at hn
  rw [e] at hl
  refine PySem.W.ktm_sumG (I.ok.hd hc) hl fun h' tk t' hk => ?_
  rw [preSum_eq, List.take_of_length_le (by simp), hn]
  exact ⟨.int ns.sum, H, I.kept hk, ⟨_, rfl⟩, q⟩
end
end L2

set_option Elab.async false
set_option maxRecDepth 100000
set_option maxHeartbeats 4000000
namespace L2
open PySem PySem.Spec PyProof.Rows
/-- a list or tuple at p of the items xs -/
def Sq (H : Hp) (p : Addr) (xs : List V) : Prop := H p = some (.lst xs) ∨ H p = some (.tup xs)
section
variable {K : PySem.W.Frag} {H H' : Hp} {p : Addr} {xs : List V}
theorem Sq.k (h : Sq H p xs) : ∃ k, KndOf H (.ref p) k ∧ k.isSeq = true := by
  rcases h with h | h
  · exact ⟨.list, ⟨p, xs, rfl, h⟩, rfl⟩
  · exact ⟨.tuple, ⟨p, xs, rfl, h⟩, rfl⟩
theorem Sq.ext (h : Sq H p xs) (e : Ext H H') : Sq H' p xs := h.imp (e _ _) (e _ _)
theorem Sq.l (h : Sq H p xs) : SqL K H p xs ∨ SqT K H p xs := h.imp SqL.of SqT.of
theorem ext_mut {D : Addr} {o : HO} (e : Ext H H') (h : H D = none) : Ext H (upd H' D o) := fun a u ha => by
  rw [upd_ne (ne_of_none ha h)]
  exact e a u ha
theorem ext_none {D : Addr} (e : Ext H H') (h : H' D = none) : H D = none := by
  cases h1 : H D with
  | none => rfl
  | some o =>
    rw [e D o h1] at h
    cases h
end
section
variable {X : Cx} {tg : Expr}
/-- a list or a tuple is walked -/
def iSq (K : PySem.W.Frag) (tl : TE) : TI := fun σ H R => tl σ H fun x H1 => ∃ a, x = .ref a ∧ (((∃ xs, SqL K H1 a xs) ∧ R (Itl K a) H1) ∨ ((∃ xs, SqT K H1 a xs) ∧ R (Itt K a) H1))
theorem pi_sq {l : Expr} {tl : TE} (hl : PE X l tl) : PI X tg l (iSq X.K tl) := by
  refine ⟨fun pins s σ H R I h => ?_⟩
  refine thn (hl.run pins s σ H _ I h) fun v s1 ⟨x, H1, I1, r1, q1⟩ => ?_
  obtain ⟨a, e, q1⟩ := q1
  subst e
  cases r1
  rcases q1 with ⟨⟨xs, hq⟩, q⟩ | ⟨⟨xs, hq⟩, q⟩
  · obtain ⟨its, rv, p, hz⟩ := I1.list hq
    refine wpAny_pyIter_list p.isList ?_
    refine ⟨s1.heap.objs.size, [s1.heap.objs.size], _, _, H1, rfl, I1.kept (t' := s1.toks) fun b o e => Heap.get?_push_of_some _ e, turn_list a _, ⟨_, Heap.get?_push_size _ rfl, rfl, rfl⟩, fun b hb => ?_, q⟩
    have e : b = s1.heap.objs.size := by simpa using hb
    subst e
    exact I1.fpOk (Nat.le_refl _) (I1.hok.fresh (Nat.le_refl _))
  · obtain ⟨its, rv, p, hz⟩ := I1.tuple hq
    refine wpAny_pyIter_tuple (show s1.heap.IsTuple a its.toArray from p) ?_
    refine ⟨s1.heap.objs.size, [s1.heap.objs.size], _, _, H1, rfl, I1.kept (t' := s1.toks) fun b o e => Heap.get?_push_of_some _ e, turn_tuple a _, ⟨_, Heap.get?_push_size _ rfl, rfl, rfl⟩, fun b hb => ?_, q⟩
    have e : b = s1.heap.objs.size := by simpa using hb
    subst e
    exact I1.fpOk (Nat.le_refl _) (I1.hok.fresh (Nat.le_refl _))
end
section
variable {K : PySem.W.Frag} {σ : St} {H : Hp} {p : Addr} {xs : List V} {te : TE} {tt : TT} {j : Nat} {vs : List Nat} {Q : VK}
theorem take_snoc {α : Type} {l : List α} {i : Nat} {x : α} (h : l[i]? = some x) : l.take (i + 1) = l.take i ++ [x] := by
  rw [List.take_add_one, h]
  rfl
/-- [f(x) for x in xs if b(x)], what is tested and made only adding to the heap: the reading behind the source's own -/
theorem lc_sqR {Qd : Addr → Hp → Prop} {f : V → V} {b : V → Bool} (hx : Sq H p xs) (hz : xs.length < sizeLine) (hw : ∀ x, wipe ((wipe σ vs).set j (some x)) vs = wipe σ vs)
    (ht : ∀ x ∈ xs, ∀ H', Ext H H' → ∀ Q : Bool → Hp → Prop, (∀ H'', Ext H' H'' → Q (b x) H'') → tt ((wipe σ vs).set j (some x)) H' Q)
    (he : ∀ x ∈ xs, b x = true → ∀ H', Ext H H' → ∀ Q : VK, (∀ H'', Ext H' H'' → Q (f x) H'') → te ((wipe σ vs).set j (some x)) H' Q)
    (q : ∀ D H', H D = none → Ext H H' → H' D = some (.lst ((xs.filter b).map f)) → Qd D H') :
    ((∃ xs, SqL K H p xs) ∧ (fun J H1 => ∀ D, H1 D = none → ∃ W : Nat → Nat → Hp → Prop, (∃ m, W 0 m (upd H1 D (.lst []))) ∧ ∀ i m H, W i m H →
      (J.stop i H ∧ Qd D H) ∨ (J.go i H ∧ ∃ Nx : Hp → Prop, (∀ H', Nx H' → ∃ m', m' < m ∧ W (i + 1) m' H') ∧ ∀ x H', J.yld i H x H' → gName j x (wipe σ vs) H' fun σ2 H2 => wipe σ2 vs = wipe σ vs ∧ tt σ2 H2 fun b H3 =>
        if b = true then te σ2 H3 fun y H4 => ∃ acc, H4 D = some (.lst acc) ∧ acc.length < sizeLine ∧ Nx (upd H4 D (.lst (acc ++ [y]))) else Nx H3)) (Itl K p) H) ∨
    ((∃ xs, SqT K H p xs) ∧ (fun J H1 => ∀ D, H1 D = none → ∃ W : Nat → Nat → Hp → Prop, (∃ m, W 0 m (upd H1 D (.lst []))) ∧ ∀ i m H, W i m H →
      (J.stop i H ∧ Qd D H) ∨ (J.go i H ∧ ∃ Nx : Hp → Prop, (∀ H', Nx H' → ∃ m', m' < m ∧ W (i + 1) m' H') ∧ ∀ x H', J.yld i H x H' → gName j x (wipe σ vs) H' fun σ2 H2 => wipe σ2 vs = wipe σ vs ∧ tt σ2 H2 fun b H3 =>
        if b = true then te σ2 H3 fun y H4 => ∃ acc, H4 D = some (.lst acc) ∧ acc.length < sizeLine ∧ Nx (upd H4 D (.lst (acc ++ [y]))) else Nx H3)) (Itt K p) H) := by
  have turn : ∀ (D : Addr), H D = none → ∀ i x H', xs[i]? = some x → (Ext H H' ∧ H' D = some (.lst (((xs.take i).filter b).map f))) → gName j x (wipe σ vs) H' fun σ2 H2 => wipe σ2 vs = wipe σ vs ∧ tt σ2 H2 fun b' H3 =>
      if b' = true then te σ2 H3 fun y H4 => ∃ acc, H4 D = some (.lst acc) ∧ acc.length < sizeLine ∧ (Ext H (upd H4 D (.lst (acc ++ [y]))) ∧ upd H4 D (.lst (acc ++ [y])) D = some (.lst (((xs.take (i + 1)).filter b).map f))) else (Ext H H3 ∧ H3 D = some (.lst (((xs.take (i + 1)).filter b).map f))) := by
    intro D hD i x H' hi pv
    obtain ⟨e, hl⟩ := pv
    have hm : x ∈ xs := List.mem_of_getElem? hi
    refine ⟨hw x, ht x hm H' e _ fun H3 e3 => ?_⟩
    have hl3 : H3 D = some (.lst (((xs.take i).filter b).map f)) := e3 _ _ hl
    cases hb : b x with
    | true =>
      refine iteT (he x hm hb H3 (e.trans e3) _ fun H4 e4 => ⟨_, e4 _ _ hl3, ?_, ext_mut ((e.trans e3).trans e4) hD, ?_⟩)
      · rw [List.length_map]
        refine Nat.lt_of_le_of_lt (Nat.le_trans (List.length_filter_le _ _) ?_) hz
        exact List.length_take_le' _ _
      · rw [upd_same, take_snoc hi, List.filter_append, List.map_append]
        simp [hb]
    | false =>
      refine iteF ⟨e.trans e3, ?_⟩
      rw [hl3, take_snoc hi, List.filter_append, List.map_append]
      simp [hb]
  have fin : ∀ D, H D = none → ∀ H', (Ext H H' ∧ H' D = some (.lst (((xs.take xs.length).filter b).map f))) → Qd D H' := fun D hD H' pv => by
    rw [List.take_length] at pv
    exact q D H' hD pv.1 pv.2
  rcases hx with hx | hx
  · refine .inl ⟨⟨xs, SqL.of hx⟩, fun D hD => lc_list (xs := xs) (fun i H' => Ext H H' ∧ H' D = some (.lst (((xs.take i).filter b).map f))) ⟨Ext.upd hD, upd_same⟩ (fun i H' _ pv => SqL.of (pv.1 _ _ hx)) (fun i x H' hi pv => turn D hD i x H' hi pv) (fun H' pv => fin D hD H' pv)⟩
  · refine .inr ⟨⟨xs, SqT.of hx⟩, fun D hD => lc_tup (xs := xs) (fun i H' => Ext H H' ∧ H' D = some (.lst (((xs.take i).filter b).map f))) ⟨Ext.upd hD, upd_same⟩ (fun i H' _ pv => SqT.of (pv.1 _ _ hx)) (fun i x H' hi pv => turn D hD i x H' hi pv) (fun H' pv => fin D hD H' pv)⟩
end
theorem filter_all {α : Type} (l : List α) : l.filter (fun _ => true) = l := List.filter_eq_self.mpr fun _ _ => rfl
end L2

set_option Elab.async false
set_option maxRecDepth 100000
set_option maxHeartbeats 4000000
/-! enumerate over a list or a tuple -/
namespace PySem
open Sem (wp)
/-- the maker of enumerate, handed one thing whose iterator is told -/
theorem en1_meets {v : Value} {ob : Obj} {HP : Heap → Prop} (BG : Begins v ob HP) :
    Meets (Builtin.«enumerate.__new__» ⟨[.type "enumerate", v], []⟩) (fun _ RR sh => HP sh.heap ∧
      RR (.ok (.ret (.ref (sh.heap.push ob).objs.size)))
        { sh with heap := (sh.heap.push ob).push { cls := .type "enumerate", data := .fields #[.none, .bool false, .ref sh.heap.objs.size, rawInt 0, .none, .none] } }) :=
  .of_wp fun pr ww AA RR sh hh => by
    obtain ⟨hp, gg, dd, tk, os⟩ := sh
    obtain ⟨hh1, hh⟩ := hh
    have sub1 := sub_enumerate
    have begin1 : ∀ {A1 : Around} {E1 Q1 : Value → Shared → Prop}, Q1 (.ref hp.objs.size) ⟨hp.push ob, gg, dd, tk, os⟩ →
        wpAny (model pr ww) A1 (pyIter v) Q1 E1 ⟨hp, gg, dd, tk, os⟩ :=
      fun qq => BG.iter pr ww _ _ ⟨hp, gg, dd, tk, os⟩ _ hh1 qq
    wp_walk using begin1
    refine wpAny_stack_any fun sta => wpAny_pure ?_
    split
    · rename_i cc _ _ _ _ _
      cases (cc == Value.type "enumerate")
      all_goals
        wp_walk using begin1
        exact ⟨_, rfl, hh⟩
    · wp_walk using begin1
      exact ⟨_, rfl, hh⟩
section
variable {pr : Program} {ww : World} {AA : Around} {EE : Value → Shared → Prop} {sh : Shared}
theorem en1_call {v : Value} {ob : Obj} {HP : Heap → Prop} {QQ : Value → Shared → Prop} (BG : Begins v ob HP) (hh : HP sh.heap)
    (kk : ∀ h1, IsEnum h1 (sh.heap.objs.size + 1) sh.heap.objs.size 0 .none → h1.get? sh.heap.objs.size = some ob →
      (∀ x y, sh.heap.get? x = some y → h1.get? x = some y) → QQ (.ref (sh.heap.objs.size + 1)) { sh with heap := h1 }) :
    wpAny (model pr ww) AA (call (.type "enumerate") [v]) QQ EE sh := by
  refine callType_new F.called_enumerate (by decide) (F.typeCall_enumerate_1 _) (F.newCall_enumerate_1 _) (fun oo => F.args_object_init_2 oo _) F.entry_enumerate_new (en1_meets BG) ⟨hh, ?_⟩
  have sz : (sh.heap.push ob).objs.size = sh.heap.objs.size + 1 := Heap.size_push ..
  show _ ∧ _
  rw [sz]
  have en : IsEnum ((sh.heap.push ob).push { cls := .type "enumerate", data := .fields #[.none, .bool false, .ref sh.heap.objs.size, rawInt 0, .none, .none] })
      (sh.heap.objs.size + 1) sh.heap.objs.size 0 .none := by
    have qq := Heap.get?_push_size (sh.heap.push ob) (o := { cls := .type "enumerate", data := .fields #[.none, .bool false, .ref sh.heap.objs.size, rawInt 0, .none, .none] }) rfl
    rw [sz] at qq
    exact qq
  exact ⟨⟨_, en, rfl⟩, kk _ en (Heap.get?_push_of_some _ (Heap.get?_push_size _ BG.free)) fun x y hx => Heap.get?_push_of_some _ (Heap.get?_push_of_some _ hx)⟩
end
end PySem
namespace L2
open PySem PySem.Spec PyProof.Rows
/-- the tuple at a, each item in a new pair with its place -/
def Itet (K : PySem.W.Frag) (a : Addr) : It :=
  ⟨fun i H => ∃ xs : List V, SqT K H a xs ∧ i < xs.length,
    fun i H v H' => ∃ T x, v = .ref T ∧ H T = none ∧ H' = upd H T (.tup [.int (i : Nat), x]) ∧ ∀ xs, SqT K H a xs → xs[i]? = some x,
    fun i H => ∃ xs : List V, SqT K H a xs ∧ xs.length = i⟩
theorem turn_enT {P : Program} {w : World} {K : PySem.W.Frag} {elts : List Expr} {kk : Nat} {tpos : Pos} (a e it : Addr) (hea : e ≠ a) (hia : a ≠ it) :
    Turn P w K (.Tuple elts kk tpos) (Itet K a) [e, it] e (fun i h => (∃ old, IsEnum h e it ((i : Nat) : Int) old) ∧ h.IsTupleIter it a i ∧ e ≠ it) where
  mem := List.mem_cons_self
  obj := fun i h st b hb => by
    obtain ⟨⟨old, he⟩, ⟨o, ho, _, hd⟩, _⟩ := st
    rcases List.mem_cons.mp hb with z | z
    · subst z
      exact ⟨_, he, fun v q => nomatch q⟩
    · have z' := List.mem_singleton.mp z
      subst z'
      exact ⟨o, ho, fun v q => by rw [hd] at q; cases q⟩
  keep := fun i h h' st k => by
    obtain ⟨⟨old, he⟩, hi, hne⟩ := st
    exact ⟨⟨old, k e List.mem_cons_self _ he⟩, hi.at fun o q => k it (List.mem_cons_of_mem _ (List.mem_singleton.mpr rfl)) o q, hne⟩
  item := by
    intro X hP hw hK hc i pins s σ H E I hf st hg
    subst hP hw hK
    obtain ⟨⟨old, he⟩, hit, hne⟩ := st
    obtain ⟨xs, hq, hx⟩ := hg
    obtain ⟨its, rv, p, hz⟩ := I.tuple hq
    have hl := rv.length
    have hel : e < s.heap.objs.size := Heap.lt_size he
    have hil : it < s.heap.objs.size := by
      obtain ⟨_, q, _⟩ := hit
      exact Heap.lt_size q
    have D := Draws.tuple (prog := X.prog) (w := X.w) (A := X.A.in1) (show X.A.in1.handled = none from I.ok.hd hc) it a hia its.toArray
    refine wpAny_pyNext_enum_itemC D he (i := i) ⟨hit, p⟩ (by simp; omega) hne (by simp [hne, hea]) fun u h' tk hP ho hst' hT hsz hk => ?_
    have hu : its[i]? = some u := by simpa using hP
    obtain ⟨x, hxx⟩ : ∃ x, xs[i]? = some x := ⟨_, List.getElem?_eq_getElem hx⟩
    obtain ⟨u', hu', ru'⟩ := rv.get hxx
    have eu : u' = u := Option.some.inj (hu'.symm.trans hu)
    subst eu
    refine ⟨_, rfl, wpAny_letOwnedTupleGo_enum (s := { s with heap := h', toks := tk + 1 }) ho fun h2 he2 sb => ?_⟩
    have hT2 : h2.get? s.heap.objs.size = some { cls := .type "tuple", data := .seq #[.int i tk, u'] } := (sb.2 _ (Nat.ne_of_gt hel)).trans hT
    have new : ObjOk X.prog X.w (upd H s.heap.objs.size (.tup [.int (i : Nat), x])) h2 s.heap.objs.size (.tup [.int (i : Nat), x]) := by
      refine ⟨?_, [.int i tk, u'], .cons ⟨_, rfl⟩ (.cons ru' .nil), ⟨_, hT2, rfl, _, rfl⟩⟩
      show 2 ≤ sizeLine
      decide
    have I1 : Inv X pins σ (upd H s.heap.objs.size (.tup [.int (i : Nat), x])) { s with heap := h2, toks := tk + 1 } := by
      refine I.turnedNew (ch := [e, it]) (fun b ob hb q => ?_) hf (Nat.le_refl _) new
      have b1 : b ≠ e := fun z => hb (by simp [z])
      have b2 : b ≠ it := fun z => hb (by simp [z])
      exact (sb.2 b b1).trans (hk b ob b1 b2 q)
    refine ⟨.ref s.heap.objs.size, _, I1, rfl, ⟨_, x, rfl, I.hok.fresh (Nat.le_refl _), rfl, fun ys hy => ?_⟩, ⟨⟨u', ?_⟩, hst'.1.at fun o q => (sb.2 it (Ne.symm hne)).trans q, hne⟩, fun b hb => ?_⟩
    · obtain ⟨its2, rv2, p2, _⟩ := I.tuple hy
      rw [I.tuple_inj hy hq]
      exact hxx
    · have e1 : ((i + 1 : Nat) : Int) = (i : Int) + 1 := rfl
      rw [e1]
      exact he2
    · have hb' : b < s.heap.objs.size := by
        rcases List.mem_cons.mp hb with z | z
        · rw [z]
          exact hel
        · rw [List.mem_singleton.mp z]
          exact hil
      rw [upd_ne (Nat.ne_of_lt hb')]
      exact (hf b hb).1
  done := by
    intro X hP hw hK hc i pins s σ H E I hf st hg
    subst hP hw hK
    obtain ⟨⟨old, he⟩, hit, hne⟩ := st
    obtain ⟨xs, hq, hx⟩ := hg
    obtain ⟨its, rv, p, hz⟩ := I.tuple hq
    have hl := rv.length
    obtain ⟨f0, f1, f2, f3, f4, f5⟩ := hf it (List.mem_cons_of_mem _ (List.mem_singleton.mpr rfl))
    have D := Draws.tuple (prog := X.prog) (w := X.w) (A := X.A.in1) (show X.A.in1.handled = none from I.ok.hd hc) it a hia its.toArray
    have ei : i = its.toArray.size := by simp; omega
    refine wpAny_pyNext_enum_endD D he (by rw [← ei]; exact ⟨hit, p⟩) fun h' eb => ⟨rfl, ?_⟩
    exact I.turned (t' := s.toks) (fun b o hb q => eb b o hb q) f0 f1 f3 f4 f5
  self := fun A i s Q E st h => by
    obtain ⟨⟨_, he⟩, _⟩ := st
    exact wpAny_pyIter_enum he h
/-- a list or a tuple is walked with the places -/
def iEnSq (K : PySem.W.Frag) (ta : TA) : TI := fun σ H R => ta σ H fun vs H1 => ∃ a, vs = [.ref a] ∧ (((∃ xs, SqL K H1 a xs) ∧ R (Ite K a) H1) ∨ ((∃ xs, SqT K H1 a xs) ∧ R (Itet K a) H1))
theorem pi_enSq {X : Cx} {e : Expr} {ta : TA} {p pos tpos : Pos} {elts : List Expr} {kk : Nat} (hg : Gl X "enumerate") (hm : X.mg "enumerate" = none) (ha : PA X [e] ta) (hs : starEach [e] X.env = [(false, eval e X.env)] := by rfl) :
    PI X (.Tuple elts kk tpos) (.Call (.Name "enumerate" p) [e] [] pos) (iEnSq X.K ta) := by
  refine ⟨fun pins s σ H R I h => ?_⟩
  refine Call_ (ld_blt I hg hm boot_enumerate (PyProof.Rows.callWith_type1 (thn (ha.run pos pins s σ H _ I h) fun us s1 ⟨vs, H1, I1, r1, q1⟩ => ?_) hs rfl))
  obtain ⟨a, ex, q1⟩ := q1
  subst ex
  obtain rfl := Vals.ref1 r1
  have two : ∀ b, b ∈ [s1.heap.objs.size + 1, s1.heap.objs.size] → s1.heap.objs.size ≤ b := fun b hb => by
    rcases List.mem_cons.mp hb with z | z
    · rw [z]
      exact Nat.le_add_right _ _
    · rw [List.mem_singleton.mp z]
      exact Nat.le_refl _
  rcases q1 with ⟨⟨xs, hq⟩, q⟩ | ⟨⟨xs, hq⟩, q⟩
  · obtain ⟨its, rv, p', hz⟩ := I1.list hq
    refine en1_call (begins_list a its.toArray) p'.isList fun h' he hit hk => wpAny_pyIter_enum he ?_
    have I2 : Inv X pins σ H1 { s1 with heap := h' } := I1.kept (t' := s1.toks) hk
    refine ⟨s1.heap.objs.size + 1, [s1.heap.objs.size + 1, s1.heap.objs.size], _, _, H1, rfl, I2, turn_enum a (s1.heap.objs.size + 1) s1.heap.objs.size, ⟨⟨.none, he⟩, ⟨_, hit, rfl, rfl⟩, Nat.succ_ne_self _⟩, fun b hb => ?_, q⟩
    exact I1.fpOk (two b hb) (I1.hok.fresh (two b hb))
  · obtain ⟨its, rv, p', hz⟩ := I1.tuple hq
    have hlt : a < s1.heap.objs.size := by
      obtain ⟨o, ho, _⟩ := (show s1.heap.IsTuple a its.toArray from p')
      exact Heap.lt_size ho
    refine en1_call (begins_tuple a its.toArray) p' fun h' he hit hk => wpAny_pyIter_enum he ?_
    have I2 : Inv X pins σ H1 { s1 with heap := h' } := I1.kept (t' := s1.toks) hk
    refine ⟨s1.heap.objs.size + 1, [s1.heap.objs.size + 1, s1.heap.objs.size], _, _, H1, rfl, I2, turn_enT a (s1.heap.objs.size + 1) s1.heap.objs.size (Nat.ne_of_gt (Nat.lt_succ_of_lt hlt)) (Nat.ne_of_lt hlt), ⟨⟨.none, he⟩, ⟨_, hit, rfl, rfl⟩, Nat.succ_ne_self _⟩, fun b hb => ?_, q⟩
    exact I1.fpOk (two b hb) (I1.hok.fresh (two b hb))
section
variable {K : PySem.W.Frag} {a : Addr} {xs : List V}
theorem walk_enT : Walk (Itet K a) xs.length (fun H => SqT K H a xs) (YPair (fun i => some (.int (i : Nat))) (fun i => xs[i]?)) := by
  refine ⟨fun i _ hi q => ⟨xs, q, hi⟩, fun _ q => ⟨xs, q, rfl⟩, fun i H v H' _ q y => ?_⟩
  obtain ⟨T, x, e1, e2, e3, e4⟩ := y
  exact ⟨T, .int (i : Nat), x, e1, e2, e3, rfl, e4 xs q⟩
/-- the turns of an end: what goes on is N -/
def turnsOf (g : TG) (tb : TS) (D : Ends) (σ : St) (J : It) (H : Hp) : Prop := ∃ W : Nat → Nat → St → Hp → Prop, (∃ m, W 0 m σ H) ∧ ∀ i m σ H, W i m σ H →
  (J.stop i H ∧ D.nx σ H) ∨ (J.go i H ∧ ∃ N : St → Hp → Prop, (∀ σ' H', N σ' H' → ∃ m', m' < m ∧ W (i + 1) m' σ' H') ∧ ∀ x H', J.yld i H x H' → g x σ H' fun σ2 H2 => tb { D with nx := N, ct := N, bk := D.nx } σ2 H2)
theorem for_enSq {g : TG} {tb : TS} {D : Ends} {σ : St} {H : Hp} (hx : SqL K H a xs ∨ SqT K H a xs) (Pv : Nat → St → Hp → Prop) (h0 : Pv 0 σ H) (hE : ∀ i σ' H', Pv i σ' H' → Ext H H')
    (hs : ∀ i x σ' H' T, xs[i]? = some x → Pv i σ' H' → H' T = none → g (.ref T) σ' (upd H' T (.tup [.int (i : Nat), x])) fun σ2 H2 => tb { D with nx := Pv (i + 1), ct := Pv (i + 1), bk := D.nx } σ2 H2) (hd : ∀ σ' H', Pv xs.length σ' H' → D.nx σ' H') :
    ((∃ xs, SqL K H a xs) ∧ turnsOf g tb D σ (Ite K a) H) ∨ ((∃ xs, SqT K H a xs) ∧ turnsOf g tb D σ (Itet K a) H) := by
  have step : ∀ i x σ' H' H'', i < xs.length → Pv i σ' H' → YPair (fun i => some (V.int (i : Nat))) (fun i => xs[i]?) i H' x H'' → g x σ' H'' fun σ2 H2 => tb { D with nx := Pv (i + 1), ct := Pv (i + 1), bk := D.nx } σ2 H2 := by
    rintro i v σ' H' H'' hi pv ⟨T, x, y, rfl, hT, rfl, hx', hy⟩
    cases hx'
    exact hs i y σ' H' T hy pv hT
  rcases hx with hx | hx
  · exact .inl ⟨⟨xs, hx⟩, for_it (walk_enum (xs := xs)) Pv h0 (fun i σ' H' _ pv => hx.ext (hE i σ' H' pv)) step hd⟩
  · exact .inr ⟨⟨xs, hx⟩, for_it (walk_enT (xs := xs)) Pv h0 (fun i σ' H' _ pv => hx.ext (hE i σ' H' pv)) step hd⟩
end
end L2

set_option Elab.async false
set_option maxRecDepth 100000
set_option maxHeartbeats 4000000
/-! values told by the data that they hold -/
namespace L2
open PySem PySem.Spec PyProof.Rows
/-- the type's name -/
def tnD : PyData → String
  | .none => "NoneType" | .bool _ => "bool" | .int _ => "int" | .str _ => "str" | .list _ => "list" | .tuple _ => "tuple" | .dict _ => "dict"
def isIntD : PyData → Bool | .int _ => true | .bool _ => true | _ => false
def isBoolD : PyData → Bool | .bool _ => true | _ => false
def isTupD : PyData → Bool | .tuple _ => true | _ => false
def isListD : PyData → Bool | .list _ => true | _ => false
def isStrD : PyData → Bool | .str _ => true | _ => false
def isSeqD : PyData → Bool | .list _ => true | .tuple _ => true | _ => false
def isNoneD : PyData → Bool | .none => true | _ => false
/-- the int that it is, no truth -/
def betD (d : PyData) (a b : Int) : Bool := match d with
  | .int n => decide (a ≤ n) && decide (n ≤ b)
  | _ => false
def lenD : PyData → Nat | .list ds => ds.length | .tuple ds => ds.length | _ => 0
section
variable {K : PySem.W.Frag} {H H' : Hp} {v : V} {d : PyData}
theorem dp_ty (h : Dp K H v d) : TyX K H v (.type (tnD d)) := by
  cases h with
  | non => exact .base .non
  | bl b => exact .base (.bl b)
  | int i => exact .base (.int i)
  | str s => exact .base (.str s)
  | lst hs _ =>
    rcases hs with (h | ⟨o, h⟩) | ⟨o, its, n, e, c, _⟩
    · exact .base (.lst h)
    · exact .base (.frz h)
    · exact .kList e c
  | tup hs _ =>
    rcases hs with (h | ⟨o, h⟩) | ⟨o, its, n, e, c, _⟩
    · exact .base (.tup h)
    · exact .fTuple h
    · exact .kTuple e c
theorem kd_int : PySem.W.kitOne K (.type (tnD d)) (.type "int") = some (isIntD d) := by cases d <;> exact kit_ty (by dsimp only [tnD, isIntD]; decide +kernel)
theorem kd_bool : PySem.W.kitOne K (.type (tnD d)) (.type "bool") = some (isBoolD d) := by cases d <;> exact kit_ty (by dsimp only [tnD, isBoolD]; decide +kernel)
theorem kd_tup : PySem.W.kitOne K (.type (tnD d)) (.type "tuple") = some (isTupD d) := by cases d <;> exact kit_ty (by dsimp only [tnD, isTupD]; decide +kernel)
theorem kd_list : PySem.W.kitOne K (.type (tnD d)) (.type "list") = some (isListD d) := by cases d <;> exact kit_ty (by dsimp only [tnD, isListD]; decide +kernel)
theorem kd_seq : PySem.W.kitAny K (.type (tnD d)) [.type "list", .type "tuple"] = some (isSeqD d) := by
  unfold PySem.W.kitAny
  rw [kd_list]
  unfold PySem.W.kitAny
  rw [kd_tup]
  cases d <;> rfl
theorem kd_find : (fastFind? (tnD d)).isSome = true := by cases d <;> (dsimp only [tnD]; decide +kernel)
mutual
theorem dp_ext (e : Ext H H') : ∀ (d : PyData) (v : V), Dp K H v d → Dp K H' v d
  | .none, _, h => by cases h; exact .non
  | .bool _, _, h => by cases h; exact .bl _
  | .int _, _, h => by cases h; exact .int _
  | .str _, _, h => by cases h; exact .str _
  | .list ds, _, h => by
    cases h with
    | lst hs ha => exact .lst (hs.ext e) (dps_ext e ds _ ha)
  | .tuple ds, _, h => by
    cases h with
    | tup hs ha => exact .tup (hs.ext e) (dps_ext e ds _ ha)
  | .dict _, _, h => by cases h
theorem dps_ext (e : Ext H H') : ∀ (ds : List PyData) (vs : List V), DpAll K H vs ds → DpAll K H' vs ds
  | [], _, h => by cases h; exact .nil
  | d :: ds, _, h => by
    cases h with
    | cons h1 h2 => exact .cons (dp_ext e d _ h1) (dps_ext e ds _ h2)
end
theorem dps_len : ∀ {vs : List V} {ds : List PyData}, DpAll K H vs ds → vs.length = ds.length
  | [], _, h => by cases h; rfl
  | v :: vs, _, h => by
    cases h with
    | cons _ h2 => exact congrArg Nat.succ (dps_len h2)
theorem dps_get : ∀ {vs : List V} {ds : List PyData} {i : Nat} {v : V}, DpAll K H vs ds → vs[i]? = some v → ∃ d, ds[i]? = some d ∧ Dp K H v d
  | [], _, _, _, _, e => by cases e
  | v :: vs, _, i, _, h, e => by
    cases h with
    | @cons _ _ d ds h1 h2 =>
      cases i with
      | zero => cases e; exact ⟨d, rfl, h1⟩
      | succ i => exact dps_get (i := i) h2 e
theorem bet_int {n a b : Int} : betD (.int n) a b = (decide (a ≤ n) && decide (n ≤ b)) := rfl
theorem bet_not {a b : Int} (h : (isIntD d && !isBoolD d) = false) : betD d a b = false := by cases d <;> first | rfl | cases h
theorem bet_yes {a b : Int} (h : betD d a b = true) : ∃ n, d = .int n ∧ a ≤ n ∧ n ≤ b := by
  cases d <;> first | (rw [bet_int, Bool.and_eq_true, decide_eq_true_eq, decide_eq_true_eq] at h; exact ⟨_, rfl, h.1, h.2⟩) | cases h
theorem int_yes (h : (isIntD d && !isBoolD d) = true) : ∃ n, d = .int n := by cases d <;> first | exact ⟨_, rfl⟩ | cases h
theorem dp_int {n : Int} (h : Dp K H v (.int n)) : v = .int n := by cases h; rfl
theorem dp_seq (h : Dp K H v d) (hs : isSeqD d = true) : ∃ (a : Addr) (xs : List V) (ds : List PyData), v = .ref a ∧ (SqL K H a xs ∨ SqT K H a xs) ∧ DpAll K H xs ds ∧ (d = .list ds ∨ d = .tuple ds) := by
  cases h with
  | lst h ha => exact ⟨_, _, _, rfl, .inl h, ha, .inl rfl⟩
  | tup h ha => exact ⟨_, _, _, rfl, .inr h, ha, .inr rfl⟩
  | _ => cases hs
theorem dp_tup (h : Dp K H v d) (hs : isTupD d = true) : ∃ (a : Addr) (xs : List V) (ds : List PyData), v = .ref a ∧ SqT K H a xs ∧ DpAll K H xs ds ∧ d = .tuple ds := by
  cases h with
  | tup h ha => exact ⟨_, _, _, rfl, h, ha, rfl⟩
  | _ => cases hs
end
/-! ### own methods, called -/
section
variable {X : Cx} {CX : CXT} {m : Str} {k : Nat} {ps : List Str} {sp : Sp} {e o : Expr} {es : List Expr} {t : TA} {ta : TE} {pos apos : Pos} {C : Addr}
theorem pe_ownM0 {pl : Sem Bool} (O : OwnM X.prog X.w X.K X.mg X.base CX C m k ps sp) (he : PE X o ta) (c : Cls X.K C) (hr : Room k X.A) (hx : Passes CX X E0)
    (ht : eval (.Call (.Attribute o m apos) [] [] pos) X.env = (do
      let ov ← eval o X.env
      standAt apos.atName
      let (f, first) ← holding [ov] (getMethod ov m pl)
      callWith pos f first (backTo pos (starEach [] X.env)) (backToKw pos (keywordEach [] X.env))) := by rfl) :
    PE X (.Call (.Attribute o m apos) [] [] pos) (tMeth C m sp [] E0 ta tNil) := by
  obtain ⟨f, fd, F, M, _, hb⟩ := O.ex
  exact pe_meth0 he c M F hr hb .nil hx ht
theorem pe_ownM {pl : Sem Bool} (O : OwnM X.prog X.w X.K X.mg X.base CX C m k ps sp) (he : PE X o ta) (c : Cls X.K C) (hr : Room k X.A) (hx : Passes CX X E0) (ha : PA X (e :: es) t)
    (hst : starEach (e :: es) X.env = (false, eval e X.env) :: starEach es X.env := by rfl) (hpl : (backTo pos (starEach es X.env)).any (·.1) = false := by rfl)
    (ht : eval (.Call (.Attribute o m apos) (e :: es) [] pos) X.env = (do
      let ov ← eval o X.env
      standAt apos.atName
      let (f, first) ← holding [ov] (getMethod ov m pl)
      callWith pos f first (backTo pos (starEach (e :: es) X.env)) (backToKw pos (keywordEach [] X.env))) := by rfl) :
    PE X (.Call (.Attribute o m apos) (e :: es) [] pos) (tMeth C m sp [] E0 ta t) := by
  obtain ⟨f, fd, F, M, _, hb⟩ := O.ex
  exact pe_meth he c M F hr hb .nil hx ha hst hpl ht
end
end L2

set_option Elab.async false
set_option maxRecDepth 100000
set_option maxHeartbeats 4000000
/-! defs that are handed the error that the suite holds; classes made with defaults -/
namespace L2
open PySem PySem.Spec PyProof.Rows
section
variable {X : Cx}
/-- isinstance(e, c), e the held error, anywhere that it is pinned -/
theorem call_isEP {a D : Addr} {cls : Value} {d : Option Addr} {oe : Obj} (hpn : (a, oe) ∈ X.pn) (C : ExcC X.K D) (hz : Zc cls d oe) (hf : ∃ vs, oe.data = .fields vs) : CallR X (.builtin "isinstance") (rIsED X.K D a cls d) := by
  intro pins s σ H xs us Q I r h
  obtain ⟨ec0, hdd, c, cv, b, rfl, hcv, e, q⟩ := h
  subst ec0
  cases r with
  | cons rx rr =>
    cases rr with
    | cons rt rr =>
      cases rr
      cases rx
      have ec := hcv _ rt
      subst ec
      obtain ⟨hget, _⟩ := I.pin (a, oe) (List.mem_append.mpr (.inl hpn))
      obtain ⟨vs, hv⟩ := hf
      have J : ∃ od, PySem.W.InstAt s.heap a oe D od := by
        obtain ⟨oc, od, oda, osl⟩ := oe
        obtain ⟨h1, h2⟩ := hz
        dsimp only at h1 h2 hv
        subst h1 h2 hv
        cases od with
        | none => exact ⟨none, hget, rfl, rfl, trivial⟩
        | some dd =>
          obtain ⟨fs, hfs⟩ := hdd dd rfl
          obtain ⟨mA, hns, _⟩ := (show ObjOk X.prog X.w H s.heap dd (.xd fs) from I.hok dd _ hfs)
          obtain ⟨od, ho, _⟩ := lookIn_ns hns
          exact ⟨some od, hget, rfl, rfl, ho⟩
      exact PySem.W.kia_one (PySem.W.kitx_excD C) I.kIn J e (fun z => nomatch z) fun tk => ⟨.bl b, H, I.kept (t' := tk) fun _ _ z => z, rfl, q⟩
/-- e.f of it -/
theorem pe_xfP {a C : Addr} {oe : Obj} {cls : Value} {d : Option Addr} {e : Expr} {te : TE} {pos : Pos} {n : Str} (hpn : (a, oe) ∈ X.pn) (T : XfC X.K C) (hno : PySem.W.findIn X.K (.ref C) n = some none)
    (hz : Zc cls d oe) (hf : ∃ vs, oe.data = .fields vs) (he : PE X e te) (hb : attributeBase e n X.env (eval e X.env) = eval e X.env := by rfl) :
    PE X (.Attribute e n pos) (tXf a cls d C n te) := by
  refine ⟨fun pins s σ H Q I h => attr_of hb (thn (he.run pins s σ H _ I h) fun u s1 hh => ?_)⟩
  obtain ⟨x, H1, I1, rx, ex, ec, dd, fs, v, ed, ea, l, q⟩ := hh
  subst ex ec ed
  obtain rfl : u = Value.ref a := rx
  obtain ⟨hget, _⟩ := I1.pin (a, oe) (List.mem_append.mpr (.inl hpn))
  obtain ⟨vs, hv⟩ := hf
  obtain ⟨mA, hns, hr⟩ := (show ObjOk X.prog X.w H1 s1.heap dd (.xd fs) from I1.hok dd _ ea)
  obtain ⟨od, ho, hl⟩ := lookIn_ns hns
  obtain ⟨uu, hu, ru⟩ := RelO.some_of (v := v) (o := mA n) (by rw [← l]; exact hr n)
  have ncls : PySem.W.notCls oe = true := by
    unfold PySem.W.notCls
    rw [hv] <;> rfl
  have J : PySem.W.InstAt s1.heap a oe C (some od) := ⟨hget, hz.1, ncls, by rw [hz.2]; exact ho⟩
  have fo := PySem.W.findObj_own T.hdC hno (od := od) rfl (by rw [hl, hu])
  exact HandSPX.exc_get I1.kIn J T.ga T.gg T.exC fo (handed_of ru) ⟨v, H1, I1.tok _, ru, q⟩
end
end L2
namespace L2H
open PySem PySem.Spec PyProof.Rows L2 HotX
/-- such a def: its promise speaks of the held error, too -/
structure FnE (P : Program) (w : World) (K : PySem.W.Frag) (mg : Str → Option Value) (base : Heap) (CX : CXT) (k : Nat) (f : Addr) (fd : FuncData) (ps : List Str) (sp : Addr × Obj → Sp) : Prop where
  len : ∀ p vs H Q E, sp p vs H Q E → vs.length = ps.length
  run : ∀ (p : Addr × Obj) (AA : Around) (outer : List Env) (sh : Shared) (H : Hp) (args : Args) (us : List Value) (vs : List V) (Q : VK) (E : XK), RoomH k AA → PinOk outer H sh p → Env0 P w K mg base AA outer sh H →
    BindsTo sh fd args (ps.zip us) → Vals vs us → sp p vs H Q E → codeAny (model P w) AA (.call (.ref f) args) (CR CX outer P w H sh Q E) sh
section
variable {CX : CXT} {P : Program} {w : World} {K : PySem.W.Frag} {mg : Str → Option Value} {base : Heap} {k : Nat} {f : Addr} {fd : FuncData} {x qual : Str} {st : Stmt} {N ps : List Str} {sp : Addr × Obj → Sp}
theorem fnE_of (F : Fun K x qual st f fd) (S : FnScope N ps (defScope st)) (len : ∀ p vs H Q E, sp p vs H Q E → vs.length = ps.length)
    (hbody : ∀ (p : Addr × Obj) (cdv : Value) (AA : Around) (outer : List Env) (sh : Shared) (H : Hp) (vs : List V) (Q : VK) (E : XK), RoomH k (AA.deeper (envOfC qual (defScope st) sh.heap.objs.size f cdv)) → sp p vs H Q E →
      ∃ t, PSs (cxH CX P w K mg base N qual (defScope st) f cdv AA outer sh H E p) (defBody st) t ∧ t { nx := fun _ H' => Q .non H', rt := Q } (L2.start N vs) H) : FnE P w K mg base CX (k + 1) f fd ps sp := by
  obtain ⟨oc, od, kV, doc, pm, an, cdv, ct, osl, rfl, lk, hcd⟩ := F.ex
  refine ⟨len, fun p AA outer sh H args us vs Q E hr hpin e0 hb r hsp => ?_⟩
  have hl := len _ _ _ _ _ hsp
  have KX : K.In sh.heap := e0.mod.kin.keeps fun b o e => (e0.bs b o e).1
  have lim : sh.heap.NoLimit := e0.mod.nolimit.keeps fun b o e => (e0.bs b o e).1
  have binds : ∀ y ∈ ps.zip us, (defScope st).names.lookup y.1 = some .local ∨ ((defScope st).names.lookup y.1 = some .cell ∧ ((cellsFrom (sh.heap.objs.size + 1) (defScope st).names []).lookup y.1).isSome = true) := by
    rintro ⟨n, v⟩ hy
    rcases S.par n (List.of_mem_zip hy).1 with q | q
    · exact .inl q
    · exact .inr ⟨q, PySem.W.cellsFrom_some _ _ _ (.inl q)⟩
  refine codeAny_call_function hr.depth (KX _ _ lk) rfl S.co S.gen rfl (PySem.W.codeRec_of KX hcd) (hb _ _ _ _ ?_)
  refine wpAny_newFunctionEnv_cells S.kind binds fun env he s1 xx => ?_
  subst he
  refine ⟨lim.keeps xx.toInCall.keep, codeAny_func ?_⟩
  obtain ⟨t, ht, hq⟩ := hbody p cdv AA outer sh H vs Q E (hr.deeper _) hsp
  have I := inv_startH (CX := CX) (E := E) S hpin e0 hl r xx
  refine wpAny_mono (ht.run [] s1 (L2.start N vs) H _ I hq) (fun fl s' hs => ?_) fun _ _ hs => hs
  cases fl with
  | ret u =>
    obtain ⟨v, σ', H', J, rv, q⟩ := hs
    exact ⟨v, H', J.os, J.bare, J.base, J.hok, rv, q⟩
  | next =>
    obtain ⟨σ', H', J, q⟩ := hs
    exact ⟨V.non, H', J.os, J.bare, J.base, J.hok, rfl, q⟩
  | brk =>
    obtain ⟨_, _, _, q⟩ := hs
    exact q.elim
  | cont =>
    obtain ⟨_, _, _, q⟩ := hs
    exact q.elim
end
section
variable {X : Cx} {CX : CXT} {k : Nat} {f : Addr} {fd : FuncData} {ps : List Str} {sp : Addr × Obj → Sp} {x : Str} {q pos : Pos} {e : Expr} {es : List Expr} {t : TA} {p : Addr × Obj}
/-- f(e, ..) in the suite that holds p -/
theorem pe_callE (F : FnE X.prog X.w X.K X.mg X.base CX k f fd ps sp) (hr : RoomH k X.A) (hp : p ∈ X.pn) (hg : Gl X x) (hm : X.mg x = some (.ref f)) (hk : PySem.W.keepIn X.K (.ref f) = true) (hb : Binds X.K fd ps []) (hx : Passes CX X E0)
    (ha : PA X (e :: es) t) (hdb : (x == ("__debug__" : Str)) = false := by decide) (he : starEach (e :: es) X.env = (false, eval e X.env) :: starEach es X.env := by rfl) (hpl : (backTo pos (starEach es X.env)).any (·.1) = false := by rfl) :
    PE X (.Call (.Name x q) (e :: es) [] pos) (tCall (sp p) [] E0 t) := by
  refine ⟨fun pins s σ H Q I h => wpAny_Call_Name_kw (ld_glob I hg hm ?_ hdb)⟩
  refine PySem.W.callWith_K (h₀ := X.base) I.ok.mod.kin hk (thn (ha.run pos pins s σ H _ I h) fun us s1 ⟨vs, H1, I1, r, hsp⟩ => ⟨I1.kIn, ?_⟩) he hpl
  have hsp : sp p vs H1 Q E0 := by
    have z : sp p (vs ++ []) H1 Q E0 := hsp
    rwa [List.append_nil] at z
  have hl : us.length = ps.length := by
    rw [← r.length]
    exact F.len _ _ _ _ _ hsp
  have bd := hb s1 us I1.kIn (by rw [List.append_nil]; exact hl)
  rw [List.append_nil] at bd
  have P1 := I1.pin p (List.mem_append.mpr (.inl hp))
  have hpin : PinOk X.stack H1 s1 p := ⟨P1.1, P1.2.1, fun hm => (List.mem_cons.mp (I1.stkSub p.1 hm)).elim P1.2.2.1 P1.2.2.2.1, P1.2.2.2.2⟩
  refine wpAny_call (codeAny_mono (F.run p X.A X.stack s1 H1 ⟨us, []⟩ us vs Q E0 hr hpin I1.env0 bd r hsp) fun rr s' hq => ?_)
  match rr, hq with
  | .error ee, hq => exact hx pins σ H1 s1 ee s' I1 hq
  | .ok (.ret u), hq => exact I1.after hq
  | .ok .next, hq => exact hq.elim
  | .ok .brk, hq => exact hq.elim
  | .ok .cont, hq => exact hq.elim
end
end L2H
namespace L2
open PySem PySem.Spec PyProof.Rows
/-- a class of the top whose __init__ has defaults, dvs those that fill up -/
structure OwnCD (P : Program) (w : World) (K : PySem.W.Frag) (mg : Str → Option Value) (base : Heap) (CX : CXT) (x : Str) (C : Addr) (k : Nat) (ps : List Str) (sp : Sp) (dvs : List V) : Prop where
  ex : ∃ (f : Addr) (fd : FuncData) (ds : List Value), FnOk P w K mg base CX k f fd ps sp ∧ Mk K C f ∧ mg x = some (.ref C) ∧ Binds K fd ps ds ∧ Vals dvs ds
section
variable {X : Cx} {CX : CXT} {x : Str} {k : Nat} {ps : List Str} {sp : Sp} {e : Expr} {es : List Expr} {t : TA} {p pos : Pos} {C : Addr} {dvs : List V}
theorem pe_newD (O : OwnCD X.prog X.w X.K X.mg X.base CX x C k ps sp dvs) (hr : Room (k + 1) X.A) (hx : Passes CX X E0) (ha : PA X (e :: es) t) (hg : Gl X x := by rfl) (hdb : (x == ("__debug__" : Str)) = false := by decide)
    (he : starEach (e :: es) X.env = (false, eval e X.env) :: starEach es X.env := by rfl) (hpl : (backTo pos (starEach es X.env)).any (·.1) = false := by rfl) : PE X (.Call (.Name x p) (e :: es) [] pos) (tMake C sp dvs E0 t) := by
  obtain ⟨f, fd, ds, F, M, hm, hb, hv⟩ := O.ex
  exact pe_make M F hr hg hm hb hv hx ha hdb he hpl
end
end L2

set_option Elab.async false
set_option maxRecDepth 100000
set_option maxHeartbeats 4000000
/-! a op b op c op d -/
namespace L2
open PySem PySem.Spec PyProof.Rows
def tCh3 (r r' r2 : R2) (ta tb tc td : TE) : TE := fun σ H Q => ta σ H fun x H1 => tb σ H1 fun y H2 => r x y H2 fun z H3 => ∃ k, z = .bl k ∧
  (if k = true then tc σ H3 fun u H4 => r' y u H4 fun z' H5 => ∃ k', z' = .bl k' ∧ (if k' = true then td σ H5 fun v H6 => r2 u v H6 Q else Q (.bl false) H5) else Q (.bl false) H3)
section
variable {X : Cx} {a b c d : Expr} {pos : Pos} {ta tb tc td : TE} {op op' op2 : CmpOp} {r r' r2 : R2}
theorem pe_chain3 (ho : OpR X (compareOp op) r) (ho' : OpR X (compareOp op') r') (ho2 : OpR X (compareOp op2) r2) (ha : PE X a ta) (hb : PE X b tb) (hc : PE X c tc) (hd : PE X d td)
    (hm : lastMarks [op, op', op2] [b, c, d] = false := by with_unfolding_all rfl) : PE X (.Compare a [op, op', op2] [b, c, d] pos) (tCh3 r r' r2 ta tb tc td) := by
  refine ⟨fun pins s σ H Q I h => ?_⟩
  refine Compare_chain (thn (ha.run pins s σ H _ I h) fun v s1 ⟨x, H1, I1, r1, q1⟩ => chain_link (thn (hb.run pins s1 σ H1 _ I1 q1) fun u s2 ⟨y, H2, I2, r2', q2⟩ =>
    thn (ho pins s2 σ H2 x y v u _ I2 r1 r2' q2) fun e s3 ⟨z, H3, I3, r3, k, ez, q3⟩ => ?_)) hm
  subst ez
  cases r3
  refine wpAny_truthy_bool ?_
  cases k with
  | false => exact ite_ff ⟨.bl false, H3, I3, rfl, q3⟩
  | true =>
    refine ite_tt (chain_link (thn (hc.run pins s3 σ H3 _ I3 q3) fun u2 s4 ⟨z4, H4, I4, r4, q4⟩ => thn (ho' pins s4 σ H4 y z4 u u2 _ I4 r2' r4 q4) fun e5 s5 ⟨z5, H5, I5, r5, k5, ez5, q5⟩ => ?_))
    subst ez5
    cases r5
    refine wpAny_truthy_bool ?_
    cases k5 with
    | false => exact ite_ff ⟨.bl false, H5, I5, rfl, q5⟩
    | true => exact ite_tt (chain_last (thn (hd.run pins s5 σ H5 _ I5 q5) fun u6 s6 ⟨z6, H6, I6, r6, q6⟩ => ho2 pins s6 σ H6 z4 z6 u2 u6 Q I6 r4 r6 q6))
theorem pt_chain3 (ho : OpR X (compareOp op) r) (ho' : OpR X (compareOp op') r') (ho2 : OpR X (compareOp op2) r2) (ha : PE X a ta) (hb : PE X b tb) (hc : PE X c tc) (hd : PE X d td)
    (hm : lastMarks [op, op', op2] [b, c, d] = false := by with_unfolding_all rfl) : PT X (.Compare a [op, op', op2] [b, c, d] pos) (tTest (tCh3 r r' r2 ta tb tc td)) := by
  refine ⟨fun pins s σ H Q I h => ?_⟩
  refine isTrue_chain (thn (ha.run pins s σ H _ I h) fun v s1 ⟨x, H1, I1, r1, q1⟩ => test_link (thn (hb.run pins s1 σ H1 _ I1 q1) fun u s2 ⟨y, H2, I2, r2', q2⟩ =>
    thn (ho pins s2 σ H2 x y v u _ I2 r1 r2' q2) fun e s3 ⟨z, H3, I3, r3, k, ez, q3⟩ => ?_)) hm
  subst ez
  cases r3
  refine wpAny_truthy_bool ?_
  cases k with
  | false =>
    obtain ⟨k', e', q'⟩ := q3
    cases e'
    exact ite_ff ⟨H3, I3, q'⟩
  | true =>
    refine ite_tt (test_link (thn (hc.run pins s3 σ H3 _ I3 q3) fun u2 s4 ⟨z4, H4, I4, r4, q4⟩ => thn (ho' pins s4 σ H4 y z4 u u2 _ I4 r2' r4 q4) fun e5 s5 ⟨z5, H5, I5, r5, k5, ez5, q5⟩ => ?_))
    subst ez5
    cases r5
    refine wpAny_truthy_bool ?_
    cases k5 with
    | false =>
      obtain ⟨k', e', q'⟩ := q5
      cases e'
      exact ite_ff ⟨H5, I5, q'⟩
    | true =>
      refine ite_tt (test_last (thn (hd.run pins s5 σ H5 _ I5 q5) fun u6 s6 ⟨z6, H6, I6, r6, q6⟩ => thn (ho2 pins s6 σ H6 z4 z6 u2 u6 _ I6 r4 r6 q6) fun e7 s7 ⟨z7, H7, I7, r7, k7, ez7, q7⟩ => ?_))
      subst ez7
      cases r7
      exact wpAny_truthy_bool ⟨H7, I7, q7⟩
end
end L2
namespace L2
open PySem PySem.Spec PyProof.Rows
def numV : V → Bool | .int _ => true | _ => false
section
variable {K : PySem.W.Frag} {σ : St} {H : Hp} {p : Addr} {xs : List V} {te : TE} {tt : TT} {j : Nat} {vs : List Nat} {Q : VK} {v : V} {d : PyData}
theorem num_dp (h : Dp K H v d) : (isIntD d && !isBoolD d) = numV v := by cases h <;> rfl
theorem non_dp (h : Dp K H v d) : decide (v = .non) = isNoneD d := by cases h <;> simp [isNoneD]
/-- [f(x) for x in xs if b(x)] over a list or a tuple wherever it stands, what is tested and made only adding to the heap -/
theorem lc_sqG {Qd : Addr → Hp → Prop} {f : V → V} {b : V → Bool} (hx : SqL K H p xs ∨ SqT K H p xs) (hz : xs.length < sizeLine) (hw : ∀ x, wipe ((wipe σ vs).set j (some x)) vs = wipe σ vs)
    (ht : ∀ x ∈ xs, ∀ H', Ext H H' → ∀ Q : Bool → Hp → Prop, (∀ H'', Ext H' H'' → Q (b x) H'') → tt ((wipe σ vs).set j (some x)) H' Q)
    (he : ∀ x ∈ xs, b x = true → ∀ H', Ext H H' → ∀ Q : VK, (∀ H'', Ext H' H'' → Q (f x) H'') → te ((wipe σ vs).set j (some x)) H' Q)
    (q : ∀ D H', H D = none → Ext H H' → H' D = some (.lst ((xs.filter b).map f)) → Qd D H') :
    ((∃ xs, SqL K H p xs) ∧ (fun J H1 => ∀ D, H1 D = none → ∃ W : Nat → Nat → Hp → Prop, (∃ m, W 0 m (upd H1 D (.lst []))) ∧ ∀ i m H, W i m H →
      (J.stop i H ∧ Qd D H) ∨ (J.go i H ∧ ∃ Nx : Hp → Prop, (∀ H', Nx H' → ∃ m', m' < m ∧ W (i + 1) m' H') ∧ ∀ x H', J.yld i H x H' → gName j x (wipe σ vs) H' fun σ2 H2 => wipe σ2 vs = wipe σ vs ∧ tt σ2 H2 fun b H3 =>
        if b = true then te σ2 H3 fun y H4 => ∃ acc, H4 D = some (.lst acc) ∧ acc.length < sizeLine ∧ Nx (upd H4 D (.lst (acc ++ [y]))) else Nx H3)) (Itl K p) H) ∨
    ((∃ xs, SqT K H p xs) ∧ (fun J H1 => ∀ D, H1 D = none → ∃ W : Nat → Nat → Hp → Prop, (∃ m, W 0 m (upd H1 D (.lst []))) ∧ ∀ i m H, W i m H →
      (J.stop i H ∧ Qd D H) ∨ (J.go i H ∧ ∃ Nx : Hp → Prop, (∀ H', Nx H' → ∃ m', m' < m ∧ W (i + 1) m' H') ∧ ∀ x H', J.yld i H x H' → gName j x (wipe σ vs) H' fun σ2 H2 => wipe σ2 vs = wipe σ vs ∧ tt σ2 H2 fun b H3 =>
        if b = true then te σ2 H3 fun y H4 => ∃ acc, H4 D = some (.lst acc) ∧ acc.length < sizeLine ∧ Nx (upd H4 D (.lst (acc ++ [y]))) else Nx H3)) (Itt K p) H) := by
  have turn : ∀ (D : Addr), H D = none → ∀ i x H', xs[i]? = some x → (Ext H H' ∧ H' D = some (.lst (((xs.take i).filter b).map f))) → gName j x (wipe σ vs) H' fun σ2 H2 => wipe σ2 vs = wipe σ vs ∧ tt σ2 H2 fun b' H3 =>
      if b' = true then te σ2 H3 fun y H4 => ∃ acc, H4 D = some (.lst acc) ∧ acc.length < sizeLine ∧ (Ext H (upd H4 D (.lst (acc ++ [y]))) ∧ upd H4 D (.lst (acc ++ [y])) D = some (.lst (((xs.take (i + 1)).filter b).map f))) else (Ext H H3 ∧ H3 D = some (.lst (((xs.take (i + 1)).filter b).map f))) := by
    intro D hD i x H' hi pv
    obtain ⟨e, hl⟩ := pv
    have hm : x ∈ xs := List.mem_of_getElem? hi
    refine ⟨hw x, ht x hm H' e _ fun H3 e3 => ?_⟩
    have hl3 : H3 D = some (.lst (((xs.take i).filter b).map f)) := e3 _ _ hl
    cases hb : b x with
    | true =>
      refine iteT (he x hm hb H3 (e.trans e3) _ fun H4 e4 => ⟨_, e4 _ _ hl3, ?_, ext_mut ((e.trans e3).trans e4) hD, ?_⟩)
      · rw [List.length_map]
        refine Nat.lt_of_le_of_lt (Nat.le_trans (List.length_filter_le _ _) ?_) hz
        exact List.length_take_le' _ _
      · rw [upd_same, take_snoc hi, List.filter_append, List.map_append]
        simp [hb]
    | false =>
      refine iteF ⟨e.trans e3, ?_⟩
      rw [hl3, take_snoc hi, List.filter_append, List.map_append]
      simp [hb]
  have fin : ∀ D, H D = none → ∀ H', (Ext H H' ∧ H' D = some (.lst (((xs.take xs.length).filter b).map f))) → Qd D H' := fun D hD H' pv => by
    rw [List.take_length] at pv
    exact q D H' hD pv.1 pv.2
  rcases hx with hx | hx
  · refine .inl ⟨⟨xs, hx⟩, fun D hD => lc_list (xs := xs) (fun i H' => Ext H H' ∧ H' D = some (.lst (((xs.take i).filter b).map f))) ⟨Ext.upd hD, upd_same⟩ (fun i H' _ pv => hx.ext pv.1) (fun i x H' hi pv => turn D hD i x H' hi pv) (fun H' pv => fin D hD H' pv)⟩
  · refine .inr ⟨⟨xs, hx⟩, fun D hD => lc_tup (xs := xs) (fun i H' => Ext H H' ∧ H' D = some (.lst (((xs.take i).filter b).map f))) ⟨Ext.upd hD, upd_same⟩ (fun i H' _ pv => hx.ext pv.1) (fun i x H' hi pv => turn D hD i x H' hi pv) (fun H' pv => fin D hD H' pv)⟩
end
end L2

set_option Elab.async false
set_option maxRecDepth 100000
set_option maxHeartbeats 4000000
namespace L2
open PySem PySem.Spec PyProof.Rows
section
variable {X : Cx} {m : Str} {k : Nat} {ps : List Str} {sp : Sp} {e o : Expr} {es : List Expr} {t : TA} {ta : TE} {pos apos : Pos} {C : Addr} {W : WX}
/-- o.m(e, ..) that may raise; W is wished for what it raises -/
theorem pe_ownMS {pl : Sem Bool} (O : OwnM X.prog X.w X.K X.mg X.base (L2.CX X.prog X.w) C m k ps sp) (he : PE X o ta) (c : Cls X.K C) (hr : Room k X.A) (tk : Takes X W) (ha : PA X (e :: es) t)
    (hst : starEach (e :: es) X.env = (false, eval e X.env) :: starEach es X.env := by rfl) (hpl : (backTo pos (starEach es X.env)).any (·.1) = false := by rfl)
    (ht : eval (.Call (.Attribute o m apos) (e :: es) [] pos) X.env = (do
      let ov ← eval o X.env
      standAt apos.atName
      let (f, first) ← holding [ov] (getMethod ov m pl)
      callWith pos f first (backTo pos (starEach (e :: es) X.env)) (backToKw pos (keywordEach [] X.env))) := by rfl) :
    PE X (.Call (.Attribute o m apos) (e :: es) [] pos) (tMethSD C m sp [] (WE W) ta t) := by
  obtain ⟨f, fd, F, M, _, hb⟩ := O.ex
  exact pe_methSD he c M F hr hb .nil (fun σ => passAt tk σ) ha hst hpl ht
theorem PE.imp {ex : Expr} {t1 t2 : TE} (h : PE X ex t1) (i : ∀ σ H Q, t2 σ H Q → t1 σ H Q) : PE X ex t2 := ⟨fun pins s σ H Q I z => h.run pins s σ H Q I (i σ H Q z)⟩
end
end L2

set_option Elab.async false
set_option maxRecDepth 100000
set_option maxHeartbeats 4000000
namespace K15
open PySem PySem.Spec PyProof.Rows L2
def top (i : Nat) : Stmt := PySem.Challenge.pw_wholeline_k15_ways_built.main.body.getD i (.Pass ⟨0, 0, 0, 0⟩)
abbrev s_BadPart_init : Stmt := inClass (top 3) 0
abbrev nm_BadPart_init : List Str := ["self", "part"]
abbrev pm_BadPart_init : List Str := ["self", "part"]
theorem sc_BadPart_init : FnScope nm_BadPart_init pm_BadPart_init (defScope s_BadPart_init) := ⟨rfl, rfl, rfl, by decide +kernel, rfl, by decide +kernel, by decide +kernel⟩

abbrev s_BadBox_init : Stmt := inClass (top 4) 0
abbrev nm_BadBox_init : List Str := ["self", "index"]
abbrev pm_BadBox_init : List Str := ["self", "index"]
theorem sc_BadBox_init : FnScope nm_BadBox_init pm_BadBox_init (defScope s_BadBox_init) := ⟨rfl, rfl, rfl, by decide +kernel, rfl, by decide +kernel, by decide +kernel⟩

abbrev s_is_integer : Stmt := top 6
abbrev nm_is_integer : List Str := ["value"]
abbrev pm_is_integer : List Str := ["value"]
theorem sc_is_integer : FnScope nm_is_integer pm_is_integer (defScope s_is_integer) := ⟨rfl, rfl, rfl, by decide +kernel, rfl, by decide +kernel, by decide +kernel⟩

abbrev s_is_between : Stmt := top 7
abbrev nm_is_between : List Str := ["value", "low", "high"]
abbrev pm_is_between : List Str := ["value", "low", "high"]
theorem sc_is_between : FnScope nm_is_between pm_is_between (defScope s_is_between) := ⟨rfl, rfl, rfl, by decide +kernel, rfl, by decide +kernel, by decide +kernel⟩

abbrev s_is_list : Stmt := top 8
abbrev nm_is_list : List Str := ["value"]
abbrev pm_is_list : List Str := ["value"]
theorem sc_is_list : FnScope nm_is_list pm_is_list (defScope s_is_list) := ⟨rfl, rfl, rfl, by decide +kernel, rfl, by decide +kernel, by decide +kernel⟩

abbrev s_is_list_of : Stmt := top 9
abbrev nm_is_list_of : List Str := ["value", "low", "high"]
abbrev pm_is_list_of : List Str := ["value", "low", "high"]
theorem sc_is_list_of : FnScope nm_is_list_of pm_is_list_of (defScope s_is_list_of) := ⟨rfl, rfl, rfl, by decide +kernel, rfl, by decide +kernel, by decide +kernel⟩

abbrev s_is_tuple_of : Stmt := top 10
abbrev nm_is_tuple_of : List Str := ["value", "many"]
abbrev pm_is_tuple_of : List Str := ["value", "many"]
theorem sc_is_tuple_of : FnScope nm_is_tuple_of pm_is_tuple_of (defScope s_is_tuple_of) := ⟨rfl, rfl, rfl, by decide +kernel, rfl, by decide +kernel, by decide +kernel⟩

abbrev s_is_begin : Stmt := top 16
abbrev nm_is_begin : List Str := ["value"]
abbrev pm_is_begin : List Str := ["value"]
theorem sc_is_begin : FnScope nm_is_begin pm_is_begin (defScope s_is_begin) := ⟨rfl, rfl, rfl, by decide +kernel, rfl, by decide +kernel, by decide +kernel⟩

abbrev s_are_delays : Stmt := top 17
abbrev nm_are_delays : List Str := ["least", "most"]
abbrev pm_are_delays : List Str := ["least", "most"]
theorem sc_are_delays : FnScope nm_are_delays pm_are_delays (defScope s_are_delays) := ⟨rfl, rfl, rfl, by decide +kernel, rfl, by decide +kernel, by decide +kernel⟩

abbrev s_is_box : Stmt := top 18
abbrev nm_is_box : List Str := ["value", "least", "most", "near", "far", "shortest", "longest"]
abbrev pm_is_box : List Str := ["value", "least", "most"]
theorem sc_is_box : FnScope nm_is_box pm_is_box (defScope s_is_box) := ⟨rfl, rfl, rfl, by decide +kernel, rfl, by decide +kernel, by decide +kernel⟩

abbrev s_Way_init : Stmt := inClass (top 19) 0
abbrev nm_Way_init : List Str := ["self", "begin", "least", "most", "boxes", "index", "box"]
abbrev pm_Way_init : List Str := ["self", "begin", "least", "most", "boxes"]
theorem sc_Way_init : FnScope nm_Way_init pm_Way_init (defScope s_Way_init) := ⟨rfl, rfl, rfl, by decide +kernel, rfl, by decide +kernel, by decide +kernel⟩

abbrev s_Way_window : Stmt := inClass (top 19) 1
abbrev nm_Way_window : List Str := ["self"]
abbrev pm_Way_window : List Str := ["self"]
theorem sc_Way_window : FnScope nm_Way_window pm_Way_window (defScope s_Way_window) := ⟨rfl, rfl, rfl, by decide +kernel, rfl, by decide +kernel, by decide +kernel⟩

abbrev s_Way_begun_at : Stmt := inClass (top 19) 2
abbrev nm_Way_begun_at : List Str := ["self", "begin"]
abbrev pm_Way_begun_at : List Str := ["self", "begin"]
theorem sc_Way_begun_at : FnScope nm_Way_begun_at pm_Way_begun_at (defScope s_Way_begun_at) := ⟨rfl, rfl, rfl, by decide +kernel, rfl, by decide +kernel, by decide +kernel⟩

abbrev s_Way_eq : Stmt := inClass (top 19) 3
abbrev nm_Way_eq : List Str := ["self", "other"]
abbrev pm_Way_eq : List Str := ["self", "other"]
theorem sc_Way_eq : FnScope nm_Way_eq pm_Way_eq (defScope s_Way_eq) := ⟨rfl, rfl, rfl, by decide +kernel, rfl, by decide +kernel, by decide +kernel⟩

abbrev s__law_draw : Stmt := top 21
abbrev nm__law_draw : List Str := ["_law_state", "_law_limit", "_law_cells", "_law_at", "_law_cell", "_law_mixed"]
abbrev pm__law_draw : List Str := ["_law_state", "_law_limit"]
theorem sc__law_draw : FnScope nm__law_draw pm__law_draw (defScope s__law_draw) := ⟨rfl, rfl, rfl, by decide +kernel, rfl, by decide +kernel, by decide +kernel⟩

abbrev s__law_box : Stmt := top 22
abbrev nm__law_box : List Str := ["_law_state", "_law_least", "_law_most", "_law_near", "_law_far", "_law_low", "_law_box_here", "_law_way"]
abbrev pm__law_box : List Str := ["_law_state", "_law_least", "_law_most"]
theorem sc__law_box : FnScope nm__law_box pm__law_box (defScope s__law_box) := ⟨rfl, rfl, rfl, by decide +kernel, rfl, by decide +kernel, by decide +kernel⟩

abbrev s__law_number : Stmt := top 23
abbrev nm__law_number : List Str := ["_law_thing"]
abbrev pm__law_number : List Str := ["_law_thing"]
theorem sc__law_number : FnScope nm__law_number pm__law_number (defScope s__law_number) := ⟨rfl, rfl, rfl, by decide +kernel, rfl, by decide +kernel, by decide +kernel⟩

abbrev s__law_box_fits : Stmt := top 24
abbrev nm__law_box_fits : List Str := ["_law_box_here", "_law_least", "_law_most", "_law_one"]
abbrev pm__law_box_fits : List Str := ["_law_box_here", "_law_least", "_law_most"]
theorem sc__law_box_fits : FnScope nm__law_box_fits pm__law_box_fits (defScope s__law_box_fits) := ⟨rfl, rfl, rfl, by decide +kernel, rfl, by decide +kernel, by decide +kernel⟩

abbrev s__law_due : Stmt := top 25
abbrev nm__law_due : List Str := ["_law_begin", "_law_least", "_law_most", "_law_boxes", "_law_k"]
abbrev pm__law_due : List Str := ["_law_begin", "_law_least", "_law_most", "_law_boxes"]
theorem sc__law_due : FnScope nm__law_due pm__law_due (defScope s__law_due) := ⟨rfl, rfl, rfl, by decide +kernel, rfl, by decide +kernel, by decide +kernel⟩

abbrev s__law_name : Stmt := top 26
abbrev nm__law_name : List Str := ["_law_e"]
abbrev pm__law_name : List Str := ["_law_e"]
theorem sc__law_name : FnScope nm__law_name pm__law_name (defScope s__law_name) := ⟨rfl, rfl, rfl, by decide +kernel, rfl, by decide +kernel, by decide +kernel⟩

abbrev s__law_again : Stmt := top 27
abbrev nm__law_again : List Str := ["_law_way", "_law_begin", "_law_found", "_law_e"]
abbrev pm__law_again : List Str := ["_law_way", "_law_begin"]
theorem sc__law_again : FnScope nm__law_again pm__law_again (defScope s__law_again) := ⟨rfl, rfl, rfl, by decide +kernel, rfl, by decide +kernel, by decide +kernel⟩

abbrev s__law_asked : Stmt := top 28
abbrev nm__law_asked : List Str := ["_law_way", "_law_begin", "_law_least", "_law_most", "_law_boxes", "_law_due_here", "_law_others", "_law_same", "_law_other"]
abbrev pm__law_asked : List Str := ["_law_way", "_law_begin", "_law_least", "_law_most", "_law_boxes"]
theorem sc__law_asked : FnScope nm__law_asked pm__law_asked (defScope s__law_asked) := ⟨rfl, rfl, rfl, by decide +kernel, rfl, by decide +kernel, by decide +kernel⟩

abbrev s_law : Stmt := top 29
abbrev nm_law : List Str := ["_law_script", "_law_state", "_law_begin", "_law_least", "_law_most", "_law_boxes", "_law_way", "_law_due_here", "_law_caught", "_law_made", "_law_e", "_law_kept", "_law_k"]
abbrev pm_law : List Str := ["_law_script"]
theorem sc_law : FnScope nm_law pm_law (defScope s_law) := ⟨rfl, rfl, rfl, by decide +kernel, rfl, by decide +kernel, by decide +kernel⟩

structure Ad where
  (BadPart BadBox WholeError Way T0 : Addr)
structure Txt (K : PySem.W.Frag) (mg : Str → Option Value) (A : Ad) : Prop where
  n_isinstance : mg "isinstance" = none
  n_int : mg "int" = none
  n_bool : mg "bool" = none
  n_list : mg "list" = none
  n_tuple : mg "tuple" = none
  n_len : mg "len" = none
  n_range : mg "range" = none
  n_max : mg "max" = none
  n_enumerate : mg "enumerate" = none
  g_MOST_BEGIN : ∃ t, mg "MOST_BEGIN" = some (.int 1000 t)
  g_MOST_DELAY : ∃ t, mg "MOST_DELAY" = some (.int 50 t)
  g_MOST_BOXES : ∃ t, mg "MOST_BOXES" = some (.int 3 t)
  g_MOST_KEEP : ∃ t, mg "MOST_KEEP" = some (.int 10000 t)
  Way : ClsX K mg "Way" A.Way
  w_begin : NoAttr K A.Way "begin"
  w_least : NoAttr K A.Way "least"
  w_most : NoAttr K A.Way "most"
  w_boxes : NoAttr K A.Way "boxes"
  BadPart : XAt K mg "BadPart" "part" A.BadPart s_BadPart_init "BadPart.__init__"
  BadBox : XAt K mg "BadBox" "index" A.BadBox s_BadBox_init "BadBox.__init__"
  g_WholeError : mg "WholeError" = some (.ref A.WholeError)
  x_pp : PySem.W.kitOne K (.ref A.BadPart) (.ref A.BadPart) = some true
  x_bp : PySem.W.kitOne K (.ref A.BadBox) (.ref A.BadPart) = some false
  x_bb : PySem.W.kitOne K (.ref A.BadBox) (.ref A.BadBox) = some true
  x_pw : PySem.W.exmOne K (.ref A.BadPart) (.ref A.WholeError) = some true
  x_bw : PySem.W.exmOne K (.ref A.BadBox) (.ref A.WholeError) = some true
  t0 : ∀ H, SqT K H A.T0 []
section
variable {P : Program} {w : World} {K : PySem.W.Frag} {mg : Str → Option Value} {base : Heap} {A : Ad}
theorem ok_xp {f : Addr} {fd : FuncData} (F : Fun K "__init__" "BadPart.__init__" s_BadPart_init f fd) (T : Txt K mg A) : FnOk P w K mg base CX0 1 f fd ["self", "part"] (spXI A.BadPart "part") := by
  refine F.ok sc_BadPart_init (fun vs H Q E h => ?_) (fun cdv A' outer s H vs Q E hr h => ?_)
  · obtain ⟨a, y, rfl, _⟩ := h
    rfl
  · obtain ⟨a, y, rfl, ha, q⟩ := h
    refine ⟨_, pss_one (ps_ost (pv 0) (pv 1)), ?_⟩
    exact ⟨_, rfl, _, rfl, a, A.BadPart, rfl, T.BadPart.ox, T.BadPart.noA, .inl ⟨ha, fun dx h1 h2 => q dx h1 h2⟩⟩
theorem ok_xb {f : Addr} {fd : FuncData} (F : Fun K "__init__" "BadBox.__init__" s_BadBox_init f fd) (T : Txt K mg A) : FnOk P w K mg base CX0 1 f fd ["self", "index"] (spXI A.BadBox "index") := by
  refine F.ok sc_BadBox_init (fun vs H Q E h => ?_) (fun cdv A' outer s H vs Q E hr h => ?_)
  · obtain ⟨a, y, rfl, _⟩ := h
    rfl
  · obtain ⟨a, y, rfl, ha, q⟩ := h
    refine ⟨_, pss_one (ps_ost (pv 0) (pv 1)), ?_⟩
    exact ⟨_, rfl, _, rfl, a, A.BadBox, rfl, T.BadBox.ox, T.BadBox.noA, .inl ⟨ha, fun dx h1 h2 => q dx h1 h2⟩⟩
/-! kinds, told by the data -/
def spInteger (K : PySem.W.Frag) : Sp := fun vs H Q _ => ∃ v d, vs = [v] ∧ Dp K H v d ∧ Q (.bl (isIntD d && !isBoolD d)) H
theorem ok_integer {f : Addr} {fd : FuncData} (F : Fun K "is_integer" "is_integer" s_is_integer f fd) (T : Txt K mg A) : FnOk P w K mg base CX0 1 f fd pm_is_integer (spInteger K) := by
  refine F.ok sc_is_integer (fun vs H Q E h => ?_) (fun cdv A' outer s H vs Q E hr h => ?_)
  · obtain ⟨v, k, rfl, _⟩ := h
    rfl
  · obtain ⟨v, d, rfl, hk, q⟩ := h
    refine ⟨_, pss_one (ps_ret (pe_and (pe_callB call_isi (by rfl) T.n_isinstance (by decide +kernel) (pa_cons (pv 0) (pa_cons (pe_bltn (v := .ty "int") (by rfl) T.n_int (by decide +kernel) rfl) pa_nil))) (pe_one (pe_not (pe_callB call_isi (by rfl) T.n_isinstance (by decide +kernel) (pa_cons (pv 0) (pa_cons (pe_bltn (v := .ty "bool") (by rfl) T.n_bool (by decide +kernel) rfl) pa_nil))))))), ?_⟩
    refine ⟨v, rfl, v, .ty "int", .type (tnD d), .type "int", isIntD d, rfl, .ty _, dp_ty hk, kd_int, _, rfl, ?_⟩
    cases h1 : isIntD d with
    | true =>
      rw [h1] at q
      exact iteT ⟨v, rfl, v, .ty "bool", .type (tnD d), .type "bool", isBoolD d, rfl, .ty _, dp_ty hk, kd_bool, _, rfl, q⟩
    | false =>
      rw [h1] at q
      exact iteF q
def spBetween (K : PySem.W.Frag) : Sp := fun vs H Q _ => ∃ v d a b, vs = [v, .int a, .int b] ∧ Dp K H v d ∧ Q (.bl (betD d a b)) H
theorem ok_between {f : Addr} {fd : FuncData} (F : Fun K "is_between" "is_between" s_is_between f fd) (O_is_integer : Own P w K mg base CX0 "is_integer" 1 pm_is_integer (spInteger K)) : FnOk P w K mg base CX0 2 f fd pm_is_between (spBetween K) := by
  refine F.ok sc_is_between (fun vs H Q E h => ?_) (fun cdv A' outer s H vs Q E hr h => ?_)
  · obtain ⟨v, k, a, b, rfl, _⟩ := h
    rfl
  · obtain ⟨v, d, a, b, rfl, hk, q⟩ := h
    refine ⟨_, pss_one (ps_ret (pe_and (pe_own O_is_integer (hr.mono (by decide)) pass0 (pa_cons (pv 0) pa_nil)) (pe_one (pe_chain op_le op_le (pv 1) (pv 0) (pv 2))))), ?_⟩
    refine ⟨v, rfl, v, d, rfl, hk, _, rfl, ?_⟩
    cases h1 : (isIntD d && !isBoolD d) with
    | true =>
      obtain ⟨n, rfl⟩ := int_yes h1
      obtain rfl := dp_int hk
      refine iteT ⟨_, rfl, _, rfl, _, _, rfl, rfl, _, rfl, ?_⟩
      rw [bet_int] at q
      cases h2 : decide (a ≤ n) with
      | true =>
        rw [h2] at q
        exact iteT ⟨_, rfl, _, _, rfl, rfl, q⟩
      | false =>
        rw [h2] at q
        exact iteF q
    | false =>
      rw [bet_not h1] at q
      exact iteF q
def spIsList (K : PySem.W.Frag) : Sp := fun vs H Q _ => ∃ v d, vs = [v] ∧ Dp K H v d ∧ ∀ H', Ext H H' → Q (.bl (isSeqD d)) H'
theorem ok_isList {f : Addr} {fd : FuncData} (F : Fun K "is_list" "is_list" s_is_list f fd) (T : Txt K mg A) : FnOk P w K mg base CX0 1 f fd pm_is_list (spIsList K) := by
  refine F.ok sc_is_list (fun vs H Q E h => ?_) (fun cdv A' outer s H vs Q E hr h => ?_)
  · obtain ⟨v, k, rfl, _⟩ := h
    rfl
  · obtain ⟨v, d, rfl, hk, q⟩ := h
    refine ⟨_, pss_one (ps_ret (pe_callB call_isiT (by rfl) T.n_isinstance (by decide +kernel) (pa_cons (pv 0) (pa_cons (pe_tup (pa_cons (pe_bltn (v := .ty "list") (by rfl) T.n_list (by decide +kernel) rfl) (pa_cons (pe_bltn (v := .ty "tuple") (by rfl) T.n_tuple (by decide +kernel) rfl) pa_nil))) pa_nil)))), ?_⟩
    refine ⟨v, rfl, by show 2 ≤ sizeLine; decide, fun p hp => ?_⟩
    exact ⟨v, p, [.ty "list", .ty "tuple"], .type (tnD d), [.type "list", .type "tuple"], isSeqD d, rfl, upd_same, .cons (.ty _) (.cons (.ty _) .nil), dp_ty (dp_ext (Ext.upd hp) _ _ hk), kd_seq, q _ (Ext.upd hp)⟩
def spListOf (K : PySem.W.Frag) : Sp := fun vs H Q _ => ∃ v d a b, vs = [v, .int a, .int b] ∧ Dp K H v d ∧ ∀ H', Ext H H' → Q (.bl (isSeqD d && (decide (a ≤ (lenD d : Int)) && decide ((lenD d : Int) ≤ b)))) H'
theorem dp_lenD {H : Hp} {a : Addr} {xs : List V} {ds : List PyData} {d : PyData} (ha : DpAll K H xs ds) (h : d = .list ds ∨ d = .tuple ds) : lenD d = xs.length := by
  rw [dps_len ha]
  rcases h with rfl | rfl <;> rfl
theorem ok_listOf {f : Addr} {fd : FuncData} (F : Fun K "is_list_of" "is_list_of" s_is_list_of f fd) (T : Txt K mg A) (O_is_list : Own P w K mg base CX0 "is_list" 1 pm_is_list (spIsList K)) : FnOk P w K mg base CX0 2 f fd pm_is_list_of (spListOf K) := by
  refine F.ok sc_is_list_of (fun vs H Q E h => ?_) (fun cdv A' outer s H vs Q E hr h => ?_)
  · obtain ⟨v, d, a, b, rfl, _⟩ := h
    rfl
  · obtain ⟨v, d, a, b, rfl, hk, q⟩ := h
    refine ⟨_, pss_one (ps_ret (pe_and (pe_own O_is_list (hr.mono (by decide)) pass0 (pa_cons (pv 0) pa_nil)) (pe_one (pe_chain op_le op_le (pv 1) (pe_callB call_len_seq (by rfl) T.n_len (by decide +kernel) (pa_cons (pv 0) pa_nil)) (pv 2))))), ?_⟩
    refine ⟨v, rfl, v, d, rfl, hk, fun H1 e1 => ⟨_, rfl, ?_⟩⟩
    have q1 := q H1 e1
    cases h1 : isSeqD d with
    | false =>
      rw [h1] at q1
      exact iteF q1
    | true =>
      rw [h1] at q1
      obtain ⟨p, xs, ds, rfl, hx, ha, hd⟩ := dp_seq (dp_ext e1 _ _ hk) h1
      rw [dp_lenD (a := p) ha hd] at q1
      refine iteT ⟨_, rfl, _, rfl, p, xs, rfl, hx, _, _, rfl, rfl, _, rfl, ?_⟩
      cases h2 : decide (a ≤ (xs.length : Int)) with
      | true =>
        rw [h2] at q1
        exact iteT ⟨_, rfl, _, _, rfl, rfl, q1⟩
      | false =>
        rw [h2] at q1
        exact iteF q1
def spTupleOf (K : PySem.W.Frag) : Sp := fun vs H Q _ => ∃ v d a, vs = [v, .int a] ∧ Dp K H v d ∧ Q (.bl (isTupD d && decide ((lenD d : Int) = a))) H
theorem dvi {a b : Int} : decide (V.int a = V.int b) = decide (a = b) := by simp
theorem ok_tupleOf {f : Addr} {fd : FuncData} (F : Fun K "is_tuple_of" "is_tuple_of" s_is_tuple_of f fd) (T : Txt K mg A) : FnOk P w K mg base CX0 1 f fd pm_is_tuple_of (spTupleOf K) := by
  refine F.ok sc_is_tuple_of (fun vs H Q E h => ?_) (fun cdv A' outer s H vs Q E hr h => ?_)
  · obtain ⟨v, d, a, rfl, _⟩ := h
    rfl
  · obtain ⟨v, d, a, rfl, hk, q⟩ := h
    refine ⟨_, pss_one (ps_ret (pe_and (pe_callB call_isi (by rfl) T.n_isinstance (by decide +kernel) (pa_cons (pv 0) (pa_cons (pe_bltn (v := .ty "tuple") (by rfl) T.n_tuple (by decide +kernel) rfl) pa_nil))) (pe_one (pe_cmpR op_eq (pe_callB call_len_seq (by rfl) T.n_len (by decide +kernel) (pa_cons (pv 0) pa_nil)) (pv 1) (nomark _))))), ?_⟩
    refine ⟨v, rfl, v, .ty "tuple", .type (tnD d), .type "tuple", isTupD d, rfl, .ty _, dp_ty hk, kd_tup, _, rfl, ?_⟩
    cases h1 : isTupD d with
    | true =>
      rw [h1] at q
      obtain ⟨p, xs, ds, rfl, hx, ha, hd⟩ := dp_tup hk h1
      rw [dp_lenD (a := p) ha (.inr hd)] at q
      refine iteT ⟨_, rfl, p, xs, rfl, .inr hx, _, rfl, rfl, ?_⟩
      show Q (.bl (decide (V.int (xs.length : Int) = V.int a))) H
      rw [dvi]
      exact q
    | false =>
      rw [h1] at q
      exact iteF q
/-! what a way is made of -/
def beginD (d : PyData) : Bool := isNoneD d || betD d 0 1000
def spBegin (K : PySem.W.Frag) : Sp := fun vs H Q _ => ∃ v d, vs = [v] ∧ Dp K H v d ∧ Q (.bl (beginD d)) H
theorem ok_begin {f : Addr} {fd : FuncData} (F : Fun K "is_begin" "is_begin" s_is_begin f fd) (T : Txt K mg A) (O_is_between : Own P w K mg base CX0 "is_between" 2 pm_is_between (spBetween K)) : FnOk P w K mg base CX0 3 f fd pm_is_begin (spBegin K) := by
  refine F.ok sc_is_begin (fun vs H Q E h => ?_) (fun cdv A' outer s H vs Q E hr h => ?_)
  · obtain ⟨v, d, rfl, _⟩ := h
    rfl
  · obtain ⟨v, d, rfl, hk, q⟩ := h
    refine ⟨_, pss_one (ps_ret (pe_or (pe_cmpR op_isN (pv 0) (pe_non) (nomark _)) (pe_one (pe_own O_is_between (hr.mono (by decide)) pass0 (pa_cons (pv 0) (pa_cons (pe_int) (pa_cons (pe_gint T.g_MOST_BEGIN) pa_nil))))))), ?_⟩
    cases hk with
    | non => exact ⟨_, rfl, rfl, _, rfl, iteT q⟩
    | bl b => exact ⟨_, rfl, rfl, _, rfl, iteF ⟨_, rfl, _, _, 0, 1000, rfl, .bl b, q⟩⟩
    | int i => exact ⟨_, rfl, rfl, _, rfl, iteF ⟨_, rfl, _, _, 0, 1000, rfl, .int i, q⟩⟩
    | str b => exact ⟨_, rfl, rfl, _, rfl, iteF ⟨_, rfl, _, _, 0, 1000, rfl, .str b, q⟩⟩
    | lst a b => exact ⟨_, rfl, rfl, _, rfl, iteF ⟨_, rfl, _, _, 0, 1000, rfl, .lst a b, q⟩⟩
    | tup a b => exact ⟨_, rfl, rfl, _, rfl, iteF ⟨_, rfl, _, _, 0, 1000, rfl, .tup a b, q⟩⟩
def delaysD : PyData → PyData → Bool
  | .int l, .int m => decide (1 ≤ l) && decide (l ≤ m) && decide (m ≤ 50)
  | _, _ => false
def spDelays (K : PySem.W.Frag) : Sp := fun vs H Q _ => ∃ v u d e, vs = [v, u] ∧ Dp K H v d ∧ Dp K H u e ∧ Q (.bl (delaysD d e)) H
theorem delays_m {d e : PyData} (h : betD e 1 50 = false) : delaysD d e = false := by
  cases e <;> first | (cases d <;> rfl) | skip
  rename_i m
  cases d <;> first | rfl | skip
  rename_i l
  rw [bet_int] at h
  simp only [delaysD]
  simp at h ⊢
  omega
theorem delays_l {d : PyData} {m : Int} (h1 : 1 ≤ m ∧ m ≤ 50) : delaysD d (.int m) = betD d 1 m := by
  cases d <;> first | rfl | skip
  rename_i l
  rw [bet_int]
  simp only [delaysD]
  rw [decide_eq_true h1.2, Bool.and_true]
theorem ok_delays {f : Addr} {fd : FuncData} (F : Fun K "are_delays" "are_delays" s_are_delays f fd) (T : Txt K mg A) (O_is_between : Own P w K mg base CX0 "is_between" 2 pm_is_between (spBetween K)) : FnOk P w K mg base CX0 3 f fd pm_are_delays (spDelays K) := by
  refine F.ok sc_are_delays (fun vs H Q E h => ?_) (fun cdv A' outer s H vs Q E hr h => ?_)
  · obtain ⟨v, u, d, e, rfl, _⟩ := h
    rfl
  · obtain ⟨v, u, d, e, rfl, hk, hu, q⟩ := h
    refine ⟨_, pss_one (ps_ret (pe_and (pe_own O_is_between (hr.mono (by decide)) pass0 (pa_cons (pv 1) (pa_cons (pe_int) (pa_cons (pe_gint T.g_MOST_DELAY) pa_nil)))) (pe_one (pe_own O_is_between (hr.mono (by decide)) pass0 (pa_cons (pv 0) (pa_cons (pe_int) (pa_cons (pv 1) pa_nil))))))), ?_⟩
    refine ⟨u, rfl, u, e, 1, 50, rfl, hu, _, rfl, ?_⟩
    cases h1 : betD e 1 50 with
    | false =>
      rw [delays_m h1] at q
      exact iteF q
    | true =>
      obtain ⟨m, rfl, m1, m2⟩ := bet_yes h1
      obtain rfl := dp_int hu
      rw [delays_l ⟨m1, m2⟩] at q
      exact iteT ⟨v, rfl, _, rfl, v, d, 1, m, rfl, hk, q⟩
end
end K15

set_option Elab.async false
set_option maxRecDepth 100000
set_option maxHeartbeats 4000000
namespace K15
open PySem PySem.Spec PyProof.Rows L2
section
variable {P : Program} {w : World} {K : PySem.W.Frag} {mg : Str → Option Value} {base : Heap} {A : Ad}
def boxD (d : PyData) (l m : Int) : Bool := match d with
  | .tuple [.int n, .int f, .int s, .int g] => decide (0 ≤ n ∧ n ≤ f ∧ f ≤ m ∧ n ≤ l ∧ 1 ≤ s ∧ s ≤ g ∧ g ≤ 10000)
  | _ => false
theorem box_f {a b c d : PyData} {l m : Int} (h : betD b 0 m = false) : boxD (.tuple [a, b, c, d]) l m = false := by
  cases a <;> first | rfl | skip
  cases b <;> first | rfl | skip
  cases c <;> first | rfl | skip
  cases d <;> first | rfl | skip
  rw [bet_int] at h
  simp at h
  simp only [boxD]
  rw [decide_eq_false (by omega)]
theorem box_n {a c d : PyData} {f l m : Int} (h : betD a 0 f = false) : boxD (.tuple [a, .int f, c, d]) l m = false := by
  cases a <;> first | rfl | skip
  cases c <;> first | rfl | skip
  cases d <;> first | rfl | skip
  rw [bet_int] at h
  simp at h
  simp only [boxD]
  rw [decide_eq_false (by omega)]
theorem box_l {c d : PyData} {n f l m : Int} (h : l < n) : boxD (.tuple [.int n, .int f, c, d]) l m = false := by
  cases c <;> first | rfl | skip
  cases d <;> first | rfl | skip
  simp only [boxD]
  rw [decide_eq_false (by omega)]
theorem box_g {c d : PyData} {n f l m : Int} (h : betD d 1 10000 = false) : boxD (.tuple [.int n, .int f, c, d]) l m = false := by
  cases c <;> first | rfl | skip
  cases d <;> first | rfl | skip
  rw [bet_int] at h
  simp at h
  simp only [boxD]
  rw [decide_eq_false (by omega)]
theorem box_s {c : PyData} {n f g l m : Int} (h : 0 ≤ n ∧ n ≤ f ∧ f ≤ m ∧ n ≤ l ∧ g ≤ 10000) : boxD (.tuple [.int n, .int f, c, .int g]) l m = betD c 1 g := by
  cases c <;> first | rfl | skip
  simp only [boxD]
  rw [bet_int, Bool.eq_iff_iff]
  simp
  omega
theorem box_t {d : PyData} {l m : Int} (h : (isTupD d && decide ((lenD d : Int) = 4)) = false) : boxD d l m = false := by
  unfold boxD
  split
  · exact absurd h (by simp [isTupD, lenD])
  · rfl
def spBoxOk (K : PySem.W.Frag) : Sp := fun vs H Q _ => ∃ v d l m, vs = [v, .int l, .int m] ∧ Dp K H v d ∧ Q (.bl (boxD d l m)) H
theorem ok_box {f : Addr} {fd : FuncData} (F : Fun K "is_box" "is_box" s_is_box f fd) (T : Txt K mg A) (O_is_between : Own P w K mg base CX0 "is_between" 2 pm_is_between (spBetween K)) (O_is_tuple_of : Own P w K mg base CX0 "is_tuple_of" 1 pm_is_tuple_of (spTupleOf K)) : FnOk P w K mg base CX0 3 f fd pm_is_box (spBoxOk K) := by
  refine F.ok sc_is_box (fun vs H Q E h => ?_) (fun cdv A' outer s H vs Q E hr h => ?_)
  · obtain ⟨v, d, l, m, rfl, _⟩ := h
    rfl
  · obtain ⟨v, d, l, m, rfl, hk, q⟩ := h
    refine ⟨_, pss_cons (ps_if (pt_not (pt_val (pe_own O_is_tuple_of (hr.mono (by decide)) pass0 (pa_cons (pv 0) (pa_cons (pe_int) pa_nil))))) (pss_one (ps_ret (pe_bl))) (pss_nil))
      (pss_cons (ps_asg (pv 0) (pg_tup rfl (pgs_cons (pg_name (i := 3) sc_is_box.nd rfl (Or.inl rfl)) (pgs_cons (pg_name (i := 4) sc_is_box.nd rfl (Or.inl rfl)) (pgs_cons (pg_name (i := 5) sc_is_box.nd rfl (Or.inl rfl)) (pgs_cons (pg_name (i := 6) sc_is_box.nd rfl (Or.inl rfl)) (pgs_nil)))))))
      (pss_cons (ps_if (PW.pt (pw_or (pt_not (pt_val (pe_own O_is_between (hr.mono (by decide)) pass0 (pa_cons (pv 4) (pa_cons (pe_int) (pa_cons (pv 2) pa_nil)))))) (pw_or (pt_not (pt_val (pe_own O_is_between (hr.mono (by decide)) pass0 (pa_cons (pv 3) (pa_cons (pe_int) (pa_cons (pv 4) pa_nil)))))) (pw_or1 (pt_cmpR op_gt (pv 3) (pv 1) (nomark _)))))) (pss_one (ps_ret (pe_bl))) (pss_nil))
      (pss_one (ps_ret (pe_and (pe_own O_is_between (hr.mono (by decide)) pass0 (pa_cons (pv 6) (pa_cons (pe_int) (pa_cons (pe_gint T.g_MOST_KEEP) pa_nil)))) (pe_one (pe_own O_is_between (hr.mono (by decide)) pass0 (pa_cons (pv 5) (pa_cons (pe_int) (pa_cons (pv 6) pa_nil)))))))))), ?_⟩
    refine ⟨v, rfl, v, d, 4, rfl, hk, _, rfl, ?_⟩
    cases h1 : (isTupD d && decide ((lenD d : Int) = 4)) with
    | false =>
      rw [box_t h1] at q
      exact iteT q
    | true =>
      refine iteF ?_
      rw [Bool.and_eq_true, decide_eq_true_eq] at h1
      obtain ⟨p, xs, ds, rfl, hx, ha, rfl⟩ := dp_tup hk h1.1
      have hl : ds.length = 4 := by
        have z : ((ds.length : Nat) : Int) = 4 := h1.2
        omega
      match ds, hl, ha, q with
      | [da, db, dc, dd], _, ha, q =>
        cases ha with
        | @cons va _ _ _ ha1 ha =>
          cases ha with
          | @cons vb _ _ _ hb1 ha =>
            cases ha with
            | @cons vc _ _ _ hc1 ha =>
              cases ha with
              | @cons vd _ _ _ hd1 ha =>
                cases ha
                refine ⟨_, rfl, p, _, rfl, hx, rfl, ?_⟩
                refine ⟨_, _, rfl, _, _, rfl, _, _, rfl, _, _, rfl, rfl, ?_⟩
                refine ⟨vb, rfl, _, rfl, vb, db, 0, m, rfl, hb1, _, rfl, ?_⟩
                cases h2 : betD db 0 m with
                | false =>
                  rw [box_f h2] at q
                  exact iteT q
                | true =>
                  refine iteF ?_
                  obtain ⟨f, rfl, f0, fm⟩ := bet_yes h2
                  obtain rfl := dp_int hb1
                  refine ⟨va, rfl, _, rfl, va, da, 0, f, rfl, ha1, _, rfl, ?_⟩
                  cases h3 : betD da 0 f with
                  | false =>
                    rw [box_n h3] at q
                    exact iteT q
                  | true =>
                    refine iteF ?_
                    obtain ⟨n, rfl, n0, nf⟩ := bet_yes h3
                    obtain rfl := dp_int ha1
                    refine ⟨_, rfl, _, rfl, _, _, rfl, rfl, _, rfl, ?_⟩
                    by_cases h4 : n > l
                    · rw [decide_eq_true h4]
                      rw [box_l h4] at q
                      exact iteT q
                    · rw [decide_eq_false h4]
                      refine iteF ?_
                      refine ⟨vd, rfl, vd, dd, 1, 10000, rfl, hd1, _, rfl, ?_⟩
                      cases h5 : betD dd 1 10000 with
                      | false =>
                        rw [box_g h5] at q
                        exact iteF q
                      | true =>
                        obtain ⟨g, rfl, g1, g2⟩ := bet_yes h5
                        obtain rfl := dp_int hd1
                        rw [box_s ⟨n0, nf, fm, by omega, g2⟩] at q
                        exact iteT ⟨vc, rfl, _, rfl, vc, dc, 1, g, rfl, hc1, q⟩
/-! ### Way -/
def itemsD : PyData → Option (List PyData) | .list ds => some ds | .tuple ds => some ds | _ => none
/-- what is wrong first: a part's word or a box's place -/
def wayDue (b l m x : PyData) : Option (Str ⊕ Nat) :=
  if beginD b = false then some (.inl "begin") else if delaysD l m = false then some (.inl "delays") else
    if (isSeqD x && (decide ((0 : Int) ≤ (lenD x : Int)) && decide ((lenD x : Int) ≤ 3))) = false then some (.inl "boxes") else
    match l, m, itemsD x with
    | .int l, .int m, some ds => (ds.findIdx? fun d => !boxD d l m).map .inr
    | _, _, _ => none
def wF (b l m x : V) : List (Str × V) := [("begin", b), ("least", l), ("most", m), ("boxes", x)]
/-- a way at p: its begin, delays, and the data of its boxes -/
def WayAt (K : PySem.W.Frag) (A : Ad) (H : Hp) (p : Addr) (b l m : V) (ds : List PyData) : Prop := ∃ dx T xs, H p = some (.ins A.Way dx (wF b l m (.ref T))) ∧ SqT K H T xs ∧ DpAll K H xs ds
def spWayInit (K : PySem.W.Frag) (A : Ad) : Sp := fun vs H Q E => ∃ (p dx : Addr) (vb vl vm vx : V) (b l m x : PyData), vs = [.ref p, vb, vl, vm, vx] ∧ H p = some (.ins A.Way dx []) ∧ Dp K H vb b ∧ Dp K H vl l ∧ Dp K H vm m ∧ Dp K H vx x ∧
  (∀ s, wayDue b l m x = some (.inl s) → ∀ H', Ext H H' → ∀ e, H' e = none → E (.ref A.BadPart) (some e) (upd H' e (.xd [("part", .str s)]))) ∧
  (∀ i, wayDue b l m x = some (.inr i) → ∀ H', Ext H H' → ∀ e, H' e = none → E (.ref A.BadBox) (some e) (upd H' e (.xd [("index", .int (i : Nat))]))) ∧
  (wayDue b l m x = none → ∀ ds H', itemsD x = some ds → (∃ T xs, H' p = some (.ins A.Way dx (wF vb vl vm (.ref T))) ∧ SqT K H' T xs ∧ DpAll K H' xs ds) → (∀ x o, x ≠ p → H x = some o → H' x = some o) → Q .non H')
theorem find_at {ds : List PyData} {f : PyData → Bool} {i : Nat} {d : PyData} (h0 : ∀ (j : Nat) (d : PyData), j < i → ds[j]? = some d → f d = false) (hd : ds[i]? = some d) (h : f d = true) : ds.findIdx? f = some i := by
  induction ds generalizing i with
  | nil => cases hd
  | cons x xs ih =>
    rw [List.findIdx?_cons]
    cases i with
    | zero =>
      cases hd
      rw [h]
      rfl
    | succ i =>
      rw [h0 0 x (Nat.succ_pos _) rfl]
      have z := ih (i := i) (fun j d hj hd => h0 (j + 1) d (Nat.succ_lt_succ hj) hd) hd
      rw [z]
      rfl
theorem find_no {ds : List PyData} {f : PyData → Bool} (h0 : ∀ (j : Nat) (d : PyData), ds[j]? = some d → f d = false) : ds.findIdx? f = none := by
  rw [List.findIdx?_eq_none_iff]
  intro x hx
  obtain ⟨j, hj⟩ := List.mem_iff_getElem?.mp hx
  exact h0 j x hj
theorem delays_yes {d e : PyData} (h : delaysD d e = true) : ∃ l m, d = .int l ∧ e = .int m ∧ 1 ≤ l ∧ l ≤ m ∧ m ≤ 50 := by
  cases d <;> first | cases h | skip
  cases e <;> first | cases h | skip
  simp only [delaysD, Bool.and_eq_true, decide_eq_true_eq] at h
  exact ⟨_, _, rfl, rfl, h.1.1, h.1.2, h.2⟩
section
variable {H H' : Hp} {p a C dx : Addr} {fs : List (Str × V)} {xs : List V}
theorem sqL_mut (hp : H p = some (.ins C dx fs)) (e : ∀ x o, x ≠ p → H x = some o → H' x = some o) (h : SqL K H a xs) : SqL K H' a xs := by
  rcases h with (h | ⟨o, h⟩) | h
  · exact .inl (.inl (e a _ (fun z => by rw [z, hp] at h; cases h) h))
  · exact .inl (.inr ⟨o, e a _ (fun z => by rw [z, hp] at h; cases h) h⟩)
  · exact .inr h
theorem sqT_mut (hp : H p = some (.ins C dx fs)) (e : ∀ x o, x ≠ p → H x = some o → H' x = some o) (h : SqT K H a xs) : SqT K H' a xs := by
  rcases h with (h | ⟨o, h⟩) | h
  · exact .inl (.inl (e a _ (fun z => by rw [z, hp] at h; cases h) h))
  · exact .inl (.inr ⟨o, e a _ (fun z => by rw [z, hp] at h; cases h) h⟩)
  · exact .inr h
mutual
theorem dp_mut (hp : H p = some (.ins C dx fs)) (e : ∀ x o, x ≠ p → H x = some o → H' x = some o) : ∀ (d : PyData) (v : V), Dp K H v d → Dp K H' v d
  | .none, _, h => by cases h; exact .non
  | .bool _, _, h => by cases h; exact .bl _
  | .int _, _, h => by cases h; exact .int _
  | .str _, _, h => by cases h; exact .str _
  | .list ds, _, h => by
    cases h with
    | lst hs ha => exact .lst (sqL_mut hp e hs) (dps_mut hp e ds _ ha)
  | .tuple ds, _, h => by
    cases h with
    | tup hs ha => exact .tup (sqT_mut hp e hs) (dps_mut hp e ds _ ha)
  | .dict _, _, h => by cases h
theorem dps_mut (hp : H p = some (.ins C dx fs)) (e : ∀ x o, x ≠ p → H x = some o → H' x = some o) : ∀ (ds : List PyData) (vs : List V), DpAll K H vs ds → DpAll K H' vs ds
  | [], _, h => by cases h; exact .nil
  | d :: ds, _, h => by
    cases h with
    | cons h1 h2 => exact .cons (dp_mut hp e d _ h1) (dps_mut hp e ds _ h2)
end
end
theorem ok_wayInit {f : Addr} {fd : FuncData} (F : FunD K "__init__" "Way.__init__" (defArgs s_Way_init) (defBody s_Way_init) (defScope s_Way_init) [.ref A.T0] [] f fd) (T : Txt K mg A)
    (O_is_begin : Own P w K mg base CX0 "is_begin" 3 pm_is_begin (spBegin K)) (O_are_delays : Own P w K mg base CX0 "are_delays" 3 pm_are_delays (spDelays K)) (O_is_list_of : Own P w K mg base CX0 "is_list_of" 2 pm_is_list_of (spListOf K))
    (O_is_box : Own P w K mg base CX0 "is_box" 3 pm_is_box (spBoxOk K)) (X_BadPart : XCls P w K mg base "BadPart" "part" A.BadPart) (X_BadBox : XCls P w K mg base "BadBox" "index" A.BadBox) : FnOk P w K mg base (L2.CX P w) 5 f fd pm_Way_init (spWayInit K A) := by
  refine F.ok sc_Way_init (fun vs H Q E h => ?_) (fun cdv A' outer s H vs Q E hr h => ?_)
  · obtain ⟨_, _, _, _, _, _, _, _, _, _, rfl, _⟩ := h
    rfl
  · obtain ⟨p, dx, vb, vl, vm, vx, b, l, m, x, rfl, hp, hb, hl, hm, hx, hEp, hEb, hQ⟩ := h
    refine ⟨_, pss_cons (ps_if (pt_not (pt_val (pe_own O_is_begin (hr.mono (by decide)) pass0 (pa_cons (pv 1) pa_nil)))) (pss_one (ps_raise rfl (takes_of rfl rfl rfl rfl) (pmk_X X_BadPart (hr.mono (by decide)) (pe_str) rfl))) (pss_nil))
      (pss_cons (ps_if (pt_not (pt_val (pe_own O_are_delays (hr.mono (by decide)) pass0 (pa_cons (pv 2) (pa_cons (pv 3) pa_nil))))) (pss_one (ps_raise rfl (takes_of rfl rfl rfl rfl) (pmk_X X_BadPart (hr.mono (by decide)) (pe_str) rfl))) (pss_nil))
      (pss_cons (ps_if (pt_not (pt_val (pe_own O_is_list_of (hr.mono (by decide)) pass0 (pa_cons (pv 4) (pa_cons (pe_int) (pa_cons (pe_gint T.g_MOST_BOXES) pa_nil)))))) (pss_one (ps_raise rfl (takes_of rfl rfl rfl rfl) (pmk_X X_BadPart (hr.mono (by decide)) (pe_str) rfl))) (pss_nil))
      (pss_cons (ps_for (passes_of rfl) rfl (pi_enSq rfl T.n_enumerate (pa_cons (pv 4) pa_nil)) (pg_tup rfl (pgs_cons (pg_name (i := 5) sc_Way_init.nd rfl (Or.inl rfl)) (pgs_cons (pg_name (i := 6) sc_Way_init.nd rfl (Or.inl rfl)) (pgs_nil)))) (pss_one (ps_if (pt_not (pt_val (pe_own O_is_box (hr.mono (by decide)) pass0 (pa_cons (pv 6) (pa_cons (pv 2) (pa_cons (pv 3) pa_nil)))))) (pss_one (ps_raise rfl (takes_of rfl rfl rfl rfl) (pmk_X X_BadBox (hr.mono (by decide)) (pv 5) rfl))) (pss_nil))))
      (pss_cons (ps_fld (pv 0) (pv 1) rfl)
      (pss_cons (ps_fld (pv 0) (pv 2) rfl)
      (pss_cons (ps_fld (pv 0) (pv 3) rfl)
      (pss_one (ps_fld (pv 0) (pe_callTy call_tuple_of (by rfl) T.n_tuple (by decide +kernel) (pa_cons (pv 4) pa_nil)) rfl)))))))), ?_⟩
    refine ⟨vb, rfl, vb, b, rfl, hb, _, rfl, ?_⟩
    cases h1 : beginD b with
    | false => exact iteT (mkX_fin fun e he => hEp _ (by unfold wayDue; rw [if_pos h1]) _ Ext.rfl' e he)
    | true =>
      refine iteF ?_
      refine ⟨vl, rfl, vm, rfl, vl, vm, l, m, rfl, hl, hm, _, rfl, ?_⟩
      cases h2 : delaysD l m with
      | false => exact iteT (mkX_fin fun e he => hEp _ (by unfold wayDue; rw [h1, if_neg (by decide), if_pos h2]) _ Ext.rfl' e he)
      | true =>
        refine iteF ?_
        obtain ⟨li, mi, rfl, rfl, l1, lm, m50⟩ := delays_yes h2
        obtain rfl := dp_int hl
        obtain rfl := dp_int hm
        refine ⟨vx, rfl, vx, x, 0, 3, rfl, hx, fun H1 e1 => ⟨_, rfl, ?_⟩⟩
        cases h3 : (isSeqD x && (decide ((0 : Int) ≤ (lenD x : Int)) && decide ((lenD x : Int) ≤ 3))) with
        | false => exact iteT (mkX_fin fun e he => hEp _ (by unfold wayDue; rw [h1, if_neg (by decide), h2, if_neg (by decide), if_pos h3]) _ e1 e he)
        | true =>
          refine iteF ?_
          have h3' := (Bool.and_eq_true_iff.mp h3).1
          obtain ⟨a, xs, ds, rfl, hsq, ha, hd⟩ := dp_seq (dp_ext e1 _ _ hx) h3'
          have hit : itemsD x = some ds := by rcases hd with rfl | rfl <;> rfl
          have due : wayDue b (.int li) (.int mi) x = (ds.findIdx? fun d => !boxD d li mi).map .inr := by
            unfold wayDue
            rw [h1, if_neg (by decide), h2, if_neg (by decide), h3, if_neg (by decide), hit]
          rw [due] at hEp hEb hQ
          have small : xs.length ≤ 3 := by
            have z := (Bool.and_eq_true_iff.mp (Bool.and_eq_true_iff.mp h3).2).2
            rw [dp_lenD (a := a) ha hd, decide_eq_true_eq] at z
            omega
          refine ⟨_, rfl, a, rfl, ?_⟩
          refine for_enSq (xs := xs) hsq (fun i σ' H' => Ext H1 H' ∧ (∃ o5 o6, σ' = [some (.ref p), some vb, some (.int li), some (.int mi), some (.ref a), o5, o6]) ∧ ∀ j d, j < i → ds[j]? = some d → boxD d li mi = true)
            ⟨Ext.rfl', ⟨_, _, rfl⟩, fun j d hj _ => absurd hj (Nat.not_lt_zero _)⟩ (fun i σ' H' pv => pv.1) (fun i v σ' H' T' hi pv hT => ?_) (fun σ' H' pv => ?_)
          · obtain ⟨e2, ⟨o5, o6, rfl⟩, hok⟩ := pv
            refine ⟨T', _, rfl, SqT.of upd_same, rfl, ?_⟩
            have e3 := e2.upd' (o := .tup [.int (i : Nat), v]) hT
            obtain ⟨d, hdi, hdv⟩ := dps_get (dps_ext e3 _ _ ha) hi
            refine ⟨_, _, rfl, _, _, rfl, rfl, ?_⟩
            refine ⟨v, rfl, _, rfl, _, rfl, v, d, li, mi, rfl, hdv, _, rfl, ?_⟩
            cases h4 : boxD d li mi with
            | false =>
              refine iteT ⟨_, rfl, mkX_fin fun e he => hEb i ?_ _ (e1.trans e3) e he⟩
              rw [find_at (f := fun d => !boxD d li mi) (fun j d hj hd => by rw [hok j d hj hd]; rfl) hdi (by rw [h4]; rfl)]
              rfl
            | true =>
              refine iteF ⟨e3, ⟨_, _, rfl⟩, fun j d' hj hd' => ?_⟩
              rcases Nat.lt_succ_iff_lt_or_eq.mp hj with hj | rfl
              · exact hok j d' hj hd'
              · rw [hdi] at hd'
                cases hd'
                exact h4
          · obtain ⟨e2, ⟨o5, o6, rfl⟩, hok⟩ := pv
            have hnone : ((ds.findIdx? fun d => !boxD d li mi).map Sum.inr : Option (Str ⊕ Nat)) = none := by
              rw [find_no (f := fun d => !boxD d li mi) fun j d hd => ?_]
              · rfl
              · have hj : j < xs.length := by
                  rw [dps_len ha]
                  exact (List.getElem?_eq_some_iff.mp hd).1
                rw [hok j d hj hd]
                rfl
            have e12 := e1.trans e2
            have hp2 := e12 _ _ hp
            refine ⟨_, rfl, _, rfl, p, A.Way, dx, _, rfl, hp2, T.Way.cl, T.w_begin, (by show 0 < 1000; decide), ?_⟩
            refine ⟨_, rfl, _, rfl, p, A.Way, dx, _, rfl, upd_same, T.Way.cl, T.w_least, (by show 1 < 1000; decide), ?_⟩
            refine ⟨_, rfl, _, rfl, p, A.Way, dx, _, rfl, upd_same, T.Way.cl, T.w_most, (by show 2 < 1000; decide), ?_⟩
            have hm3 : ∀ o y, y ≠ p → H' y = some o → (upd (upd (upd H' p (.ins A.Way dx (putF "begin" vb []))) p (.ins A.Way dx (putF "least" (.int li) (putF "begin" vb [])))) p (.ins A.Way dx (putF "most" (.int mi) (putF "least" (.int li) (putF "begin" vb []))))) y = some o := fun o y hy h => by
              rw [upd_ne hy, upd_ne hy, upd_ne hy]
              exact h
            have hp3 : (upd (upd (upd H' p (.ins A.Way dx (putF "begin" vb []))) p (.ins A.Way dx (putF "least" (.int li) (putF "begin" vb [])))) p (.ins A.Way dx (putF "most" (.int mi) (putF "least" (.int li) (putF "begin" vb []))))) p = some (.ins A.Way dx (putF "most" (.int mi) (putF "least" (.int li) (putF "begin" vb [])))) := upd_same
            have hda : DpAll K H' xs ds := dps_ext e2 _ _ ha
            generalize upd (upd (upd H' p (.ins A.Way dx (putF "begin" vb []))) p (.ins A.Way dx (putF "least" (.int li) (putF "begin" vb [])))) p (.ins A.Way dx (putF "most" (.int mi) (putF "least" (.int li) (putF "begin" vb [])))) = H3 at hm3 hp3 ⊢
            refine ⟨_, rfl, a, xs, rfl, ?_⟩
            rcases hsq with hsq | hsq
            · refine .inl ⟨sqL_mut hp2 (fun y o => hm3 o y) (hsq.ext e2), fun t ht => ⟨_, rfl, p, A.Way, dx, _, rfl, Ext.upd ht _ _ hp3, T.Way.cl, T.w_boxes, (by show 3 < 1000; decide), ?_⟩⟩
              have ntp : t ≠ p := fun z => by rw [z, hp3] at ht; cases ht
              refine hQ hnone ds _ hit ⟨t, xs, upd_same, SqT.of (by rw [upd_ne ntp]; exact upd_same), ?_⟩ fun y o hy h => ?_
              · exact dps_mut hp2 (fun y o hy h => by rw [upd_ne hy]; exact Ext.upd ht _ _ (hm3 o y hy h)) _ _ hda
              · rw [upd_ne hy]
                exact Ext.upd ht _ _ (hm3 o y hy (e12 _ _ h))
            · refine .inr ⟨sqT_mut hp2 (fun y o => hm3 o y) (hsq.ext e2), _, rfl, p, A.Way, dx, _, rfl, hp3, T.Way.cl, T.w_boxes, (by show 3 < 1000; decide), ?_⟩
              refine hQ hnone ds _ hit ⟨a, xs, upd_same, sqT_mut hp2 (fun y o hy h => by rw [upd_ne hy]; exact hm3 o y hy h) (hsq.ext e2), ?_⟩ fun y o hy h => ?_
              · exact dps_mut hp2 (fun y o hy h => by rw [upd_ne hy]; exact hm3 o y hy h) _ _ hda
              · rw [upd_ne hy]
                exact hm3 o y hy (e12 _ _ h)
end
end K15

set_option Elab.async false
set_option maxRecDepth 100000
set_option maxHeartbeats 4000000
namespace K15
open PySem PySem.Spec PyProof.Rows L2
abbrev Bx := Int × Int × Int × Int
def bxD (q : Bx) : PyData := .tuple [.int q.1, .int q.2.1, .int q.2.2.1, .int q.2.2.2]
def bxOk (q : Bx) (l m : Int) : Prop := 0 ≤ q.1 ∧ q.1 ≤ q.2.1 ∧ q.2.1 ≤ m ∧ q.1 ≤ l ∧ 1 ≤ q.2.2.1 ∧ q.2.2.1 ≤ q.2.2.2 ∧ q.2.2.2 ≤ 10000
theorem box_yes {d : PyData} {l m : Int} (h : boxD d l m = true) : ∃ q, d = bxD q ∧ bxOk q l m := by
  unfold boxD at h
  split at h
  · rename_i n f s g
    rw [decide_eq_true_eq] at h
    exact ⟨(n, f, s, g), rfl, h⟩
  · cases h
theorem box_ok {q : Bx} {l m : Int} (h : bxOk q l m) : boxD (bxD q) l m = true := decide_eq_true h
theorem boxes_yes {l m : Int} : ∀ {ds : List PyData}, (∀ d ∈ ds, boxD d l m = true) → ∃ bs : List Bx, ds = bs.map bxD ∧ ∀ q ∈ bs, bxOk q l m
  | [], _ => ⟨[], rfl, fun _ h => nomatch h⟩
  | d :: ds, h => by
    obtain ⟨q, rfl, hq⟩ := box_yes (h d List.mem_cons_self)
    obtain ⟨bs, rfl, hb⟩ := boxes_yes (ds := ds) fun d hd => h d (List.mem_cons_of_mem _ hd)
    refine ⟨q :: bs, rfl, fun r hr => ?_⟩
    rcases List.mem_cons.mp hr with rfl | hr
    · exact hq
    · exact hb r hr
def bD : Option Int → PyData | some n => .int n | none => .none
def bV : Option Int → V | some n => .int n | none => .non
def bOk (b : Option Int) : Prop := ∀ n, b = some n → 0 ≤ n ∧ n ≤ 1000
theorem begin_yes {d : PyData} (h : beginD d = true) : ∃ b, d = bD b ∧ bOk b := by
  cases d with
  | none => exact ⟨none, rfl, fun n h => nomatch h⟩
  | int n =>
    have h' : betD (.int n) 0 1000 = true := h
    obtain ⟨m, e, h1, h2⟩ := bet_yes h'
    cases e
    exact ⟨some n, rfl, fun k e => by cases e; exact ⟨h1, h2⟩⟩
  | _ => cases h
theorem begin_ok {b : Option Int} (h : bOk b) : beginD (bD b) = true := by
  cases b with
  | none => rfl
  | some n =>
    obtain ⟨h1, h2⟩ := h n rfl
    show betD (.int n) 0 1000 = true
    rw [bet_int, decide_eq_true h1, decide_eq_true h2]
    rfl
theorem due_begin {b l m x : PyData} (h : beginD b = false) : wayDue b l m x = some (.inl "begin") := by
  unfold wayDue
  rw [if_pos h]
theorem due_none {b l m x : PyData} (h : wayDue b l m x = none) : ∃ (bo : Option Int) (li mi : Int) (bs : List Bx), b = bD bo ∧ bOk bo ∧ l = .int li ∧ m = .int mi ∧ (1 ≤ li ∧ li ≤ mi ∧ mi ≤ 50) ∧ itemsD x = some (bs.map bxD) ∧ bs.length ≤ 3 ∧ ∀ q ∈ bs, bxOk q li mi := by
  unfold wayDue at h
  cases h1 : beginD b with
  | false => rw [h1, if_pos rfl] at h; cases h
  | true =>
    rw [h1, if_neg (by decide)] at h
    cases h2 : delaysD l m with
    | false => rw [h2, if_pos rfl] at h; cases h
    | true =>
      rw [h2, if_neg (by decide)] at h
      obtain ⟨li, mi, rfl, rfl, d1, d2, d3⟩ := delays_yes h2
      cases h3 : (isSeqD x && (decide ((0 : Int) ≤ (lenD x : Int)) && decide ((lenD x : Int) ≤ 3))) with
      | false => rw [h3, if_pos rfl] at h; cases h
      | true =>
        rw [h3, if_neg (by decide)] at h
        obtain ⟨bo, rfl, hb⟩ := begin_yes h1
        have h4 := (Bool.and_eq_true_iff.mp (Bool.and_eq_true_iff.mp h3).2).2
        rw [decide_eq_true_eq] at h4
        have fin : ∀ ds : List PyData, itemsD x = some ds → lenD x = ds.length → (ds.findIdx? fun d => !boxD d li mi) = none → ∃ (bo' : Option Int) (li' mi' : Int) (bs : List Bx), bD bo = bD bo' ∧ bOk bo' ∧ PyData.int li = .int li' ∧ PyData.int mi = .int mi' ∧ (1 ≤ li' ∧ li' ≤ mi' ∧ mi' ≤ 50) ∧ itemsD x = some (bs.map bxD) ∧ bs.length ≤ 3 ∧ ∀ q ∈ bs, bxOk q li' mi' := by
          intro ds hi hl hf
          rw [List.findIdx?_eq_none_iff] at hf
          obtain ⟨bs, rfl, hbs⟩ := boxes_yes (ds := ds) (l := li) (m := mi) fun d hd => by
            have z := hf d hd
            cases hz : boxD d li mi with
            | true => rfl
            | false => rw [hz] at z; cases z
          refine ⟨bo, li, mi, bs, rfl, hb, rfl, rfl, ⟨d1, d2, d3⟩, hi, ?_, hbs⟩
          rw [hl, List.length_map] at h4
          omega
        cases x with
        | list ds =>
          refine fin ds rfl rfl ?_
          have h' : (ds.findIdx? fun d => !boxD d li mi).map (Sum.inr (α := Str)) = none := h
          rwa [Option.map_eq_none_iff] at h'
        | tuple ds =>
          refine fin ds rfl rfl ?_
          have h' : (ds.findIdx? fun d => !boxD d li mi).map (Sum.inr (α := Str)) = none := h
          rwa [Option.map_eq_none_iff] at h'
        | _ => cases h3
theorem due_ok {bo : Option Int} {li mi : Int} {bs : List Bx} {x : PyData} (hb : bOk bo) (hd : 1 ≤ li ∧ li ≤ mi ∧ mi ≤ 50) (hx : x = .list (bs.map bxD) ∨ x = .tuple (bs.map bxD)) (hl : bs.length ≤ 3) (hbs : ∀ q ∈ bs, bxOk q li mi) : wayDue (bD bo) (.int li) (.int mi) x = none := by
  have h2 : delaysD (.int li) (.int mi) = true := by
    simp only [delaysD]
    rw [decide_eq_true hd.1, decide_eq_true hd.2.1, decide_eq_true hd.2.2]
    rfl
  have hf : ((bs.map bxD).findIdx? fun d => !boxD d li mi) = none := by
    rw [List.findIdx?_eq_none_iff]
    intro d hd
    obtain ⟨q, hq, rfl⟩ := List.mem_map.mp hd
    rw [box_ok (hbs q hq)]
    rfl
  have h4 : decide (((bs.map bxD).length : Int) ≤ 3) = true := by
    rw [List.length_map]
    exact decide_eq_true (by omega)
  have h5 : decide ((0 : Int) ≤ ((bs.map bxD).length : Int)) = true := decide_eq_true (by omega)
  unfold wayDue
  rw [begin_ok hb, if_neg (by decide), h2, if_neg (by decide)]
  rcases hx with rfl | rfl
  · have h3 : (isSeqD (.list (bs.map bxD)) && (decide ((0 : Int) ≤ (lenD (.list (bs.map bxD)) : Int)) && decide ((lenD (.list (bs.map bxD)) : Int) ≤ 3))) = true := by
      show (true && (decide ((0 : Int) ≤ ((bs.map bxD).length : Int)) && decide (((bs.map bxD).length : Int) ≤ 3))) = true
      rw [h4, h5]
      rfl
    rw [h3, if_neg (by decide)]
    show ((bs.map bxD).findIdx? fun d => !boxD d li mi).map (Sum.inr (α := Str)) = none
    rw [hf]
    rfl
  · have h3 : (isSeqD (.tuple (bs.map bxD)) && (decide ((0 : Int) ≤ (lenD (.tuple (bs.map bxD)) : Int)) && decide ((lenD (.tuple (bs.map bxD)) : Int) ≤ 3))) = true := by
      show (true && (decide ((0 : Int) ≤ ((bs.map bxD).length : Int)) && decide (((bs.map bxD).length : Int) ≤ 3))) = true
      rw [h4, h5]
      rfl
    rw [h3, if_neg (by decide)]
    show ((bs.map bxD).findIdx? fun d => !boxD d li mi).map (Sum.inr (α := Str)) = none
    rw [hf]
    rfl
theorem eqv_bx (q r : Bx) : PyData.eqv (bxD q) (bxD r) = decide (q = r) := by
  obtain ⟨a, b, c, d⟩ := q
  obtain ⟨a', b', c', d'⟩ := r
  have h := eqv_ints [a, b, c, d] [a', b', c', d']
  show PyData.eqvAll [.int a, .int b, .int c, .int d] [.int a', .int b', .int c', .int d'] = _
  rw [show PyData.eqvAll [.int a, .int b, .int c, .int d] [.int a', .int b', .int c', .int d'] = decide ([a, b, c, d] = [a', b', c', d']) from h]
  simp
theorem eqv_bxs : ∀ (bs cs : List Bx), PyData.eqvAll (bs.map bxD) (cs.map bxD) = decide (bs = cs)
  | [], [] => rfl
  | [], _ :: _ => rfl
  | _ :: _, [] => rfl
  | b :: bs, c :: cs => by
    show (PyData.eqv (bxD b) (bxD c) && PyData.eqvAll (bs.map bxD) (cs.map bxD)) = _
    rw [eqv_bx, eqv_bxs bs cs, Bool.eq_iff_iff]
    simp
theorem lay_bxs : ∀ bs : List Bx, PyData.canLayAll0 (bs.map bxD) = true ∧ PyData.depthAll (bs.map bxD) ≤ 1
  | [] => ⟨rfl, Nat.zero_le _⟩
  | b :: bs => by
    obtain ⟨h1, h2⟩ := lay_bxs bs
    constructor
    · show ((bxD b).canLay0 && PyData.canLayAll0 (bs.map bxD)) = true
      rw [h1]
      rfl
    · show max (bxD b).depth (PyData.depthAll (bs.map bxD)) ≤ 1
      exact Nat.max_le.mpr ⟨Nat.le_refl 1, h2⟩
theorem shp_bxs (bs : List Bx) : SeqAt.shaped (.tuple (bs.map bxD)) = true := by
  obtain ⟨h1, h2⟩ := lay_bxs bs
  show (PyData.canLayAll0 (bs.map bxD) && decide (PyData.depthAll (bs.map bxD) + 1 ≤ 64)) = true
  rw [h1, decide_eq_true (by omega)]
  rfl
section
variable {P : Program} {w : World} {K : PySem.W.Frag} {mg : Str → Option Value} {base : Heap} {A : Ad}
theorem bV_dp {H : Hp} (b : Option Int) : Dp K H (bV b) (bD b) := by cases b <;> first | exact .non | exact .int _
theorem bV_of {H : Hp} {v : V} {b : Option Int} (h : Dp K H v (bD b)) : v = bV b := by
  cases b with
  | none => cases h; rfl
  | some n => cases h; rfl
theorem bV_eq (b c : Option Int) : decide (bV b = bV c) = decide (b = c) := by cases b <;> cases c <;> simp [bV]
theorem bV_sc (b c : Option Int) : scal (bV b) (bV c) = true := by cases b <;> cases c <;> rfl
def MyWay (K : PySem.W.Frag) (A : Ad) (H : Hp) (p : Addr) (b : Option Int) (l m : Int) (bs : List Bx) : Prop := WayAt K A H p (bV b) (.int l) (.int m) (bs.map bxD)
theorem MyWay.ext {H H' : Hp} {p : Addr} {b : Option Int} {l m : Int} {bs : List Bx} (h : MyWay K A H p b l m bs) (e : Ext H H') : MyWay K A H' p b l m bs := by
  obtain ⟨dx, T', xs, h1, h2, h3⟩ := h
  exact ⟨dx, T', xs, e _ _ h1, h2.ext e, dps_ext e _ _ h3⟩
def spWindow (K : PySem.W.Frag) (A : Ad) : Sp := fun vs H Q _ => ∃ p b l m bs, vs = [.ref p] ∧ MyWay K A H p b l m bs ∧ (b = none → Q .non H) ∧ ∀ n, b = some n → ∀ t H', Ext H H' → H' t = some (.tup [.int (n + 2 * l), .int (n + 2 * m)]) → Q (.ref t) H'
theorem ok_window {f : Addr} {fd : FuncData} (F : Fun K "window" "Way.window" s_Way_window f fd) (T : Txt K mg A) : FnOk P w K mg base CX0 1 f fd pm_Way_window (spWindow K A) := by
  refine F.ok sc_Way_window (fun vs H Q E h => ?_) (fun cdv A' outer s H vs Q E hr h => ?_)
  · obtain ⟨_, _, _, _, _, rfl, _⟩ := h
    rfl
  · obtain ⟨p, b, l, m, bs, rfl, ⟨dx, T', xs, hp, hT, ha⟩, q0, q1⟩ := h
    refine ⟨_, pss_cons (ps_if (pt_cmpR op_isN (pe_fld (pv 0) rfl) (pe_non) (nomark _)) (pss_one (ps_ret (pe_non))) (pss_nil))
      (pss_one (ps_ret (pe_tup (pa_cons (pe_op op_add (pe_fld (pv 0) rfl) (pe_op op_mul (pe_int) (pe_fld (pv 0) rfl))) (pa_cons (pe_op op_add (pe_fld (pv 0) rfl) (pe_op op_mul (pe_int) (pe_fld (pv 0) rfl))) pa_nil))))), ?_⟩
    refine ⟨_, rfl, p, A.Way, dx, _, _, rfl, hp, T.Way.cl, T.w_begin, rfl, rfl, _, rfl, ?_⟩
    cases b with
    | none => exact iteT (q0 rfl)
    | some n =>
      refine iteF ?_
      refine ⟨_, rfl, p, A.Way, dx, _, _, rfl, hp, T.Way.cl, T.w_begin, rfl, _, rfl, p, A.Way, dx, _, _, rfl, hp, T.Way.cl, T.w_least, rfl, _, _, rfl, rfl, .inl ⟨by decide, by decide⟩, _, _, rfl, rfl, ?_⟩
      refine ⟨_, rfl, p, A.Way, dx, _, _, rfl, hp, T.Way.cl, T.w_begin, rfl, _, rfl, p, A.Way, dx, _, _, rfl, hp, T.Way.cl, T.w_most, rfl, _, _, rfl, rfl, .inl ⟨by decide, by decide⟩, _, _, rfl, rfl, ?_⟩
      exact ⟨by show 2 ≤ sizeLine; decide, fun t ht => q1 n rfl t _ (Ext.upd ht) upd_same⟩
def spWayEq (K : PySem.W.Frag) (A : Ad) : Sp := fun vs H Q _ => ∃ p b l m bs v, vs = [.ref p, v] ∧ MyWay K A H p b l m bs ∧
  ((∃ q b' l' m' bs', v = .ref q ∧ MyWay K A H q b' l' m' bs' ∧ Q (.bl (decide (b = b' ∧ l = l' ∧ m = m' ∧ bs = bs'))) H) ∨ ∃ d, Dp K H v d ∧ Q (.bl false) H)
theorem ok_wayEq {f : Addr} {fd : FuncData} (F : Fun K "__eq__" "Way.__eq__" s_Way_eq f fd) (T : Txt K mg A) : FnOk P w K mg base CX0 1 f fd pm_Way_eq (spWayEq K A) := by
  refine F.ok sc_Way_eq (fun vs H Q E h => ?_) (fun cdv A' outer s H vs Q E hr h => ?_)
  · obtain ⟨_, _, _, _, _, _, rfl, _⟩ := h
    rfl
  · obtain ⟨p, b, l, m, bs, v, rfl, ⟨dx, T', xs, hp, hT, ha⟩, h⟩ := h
    refine ⟨_, pss_cons (ps_if (PW.pt (pw_or (pt_not (pt_val (pe_callB call_isi (by rfl) T.n_isinstance (by decide +kernel) (pa_cons (pv 1) (pa_cons (pe_gcls T.Way.gC) pa_nil))))) (pw_or1 (pt_cmpR op_ne (pe_fld (pv 0) rfl) (pe_fld (pv 1) rfl) (nomark _))))) (pss_one (ps_ret (pe_bl))) (pss_nil))
      (pss_one (ps_ret (pe_and (pe_cmpR op_eq (pe_fld (pv 0) rfl) (pe_fld (pv 1) rfl) (nomark _)) (pe_and (pe_cmpR op_eq (pe_fld (pv 0) rfl) (pe_fld (pv 1) rfl) (nomark _)) (pe_one (pe_cmpR (op_eqD hr.units) (pe_fld (pv 0) rfl) (pe_fld (pv 1) rfl) (nomark _))))))), ?_⟩
    rcases h with ⟨q, b', l', m', bs', rfl, ⟨dy, T2, ys, hq, hT2, ha2⟩, k⟩ | ⟨d, hd, h⟩
    · refine ⟨_, rfl, _, .ref A.Way, .ref A.Way, .ref A.Way, true, rfl, .own _, T.Way.tyOf hq, T.Way.me, _, rfl, ?_⟩
      refine iteF ?_
      refine ⟨_, rfl, p, A.Way, dx, _, _, rfl, hp, T.Way.cl, T.w_begin, rfl, _, rfl, q, A.Way, dy, _, _, rfl, hq, T.Way.cl, T.w_begin, rfl, bV_sc _ _, _, rfl, ?_⟩
      rw [bV_eq]
      by_cases h1 : b = b'
      · rw [decide_eq_true h1]
        refine iteF ?_
        refine ⟨_, rfl, p, A.Way, dx, _, _, rfl, hp, T.Way.cl, T.w_least, rfl, _, rfl, q, A.Way, dy, _, _, rfl, hq, T.Way.cl, T.w_least, rfl, rfl, _, rfl, ?_⟩
        rw [dvi]
        by_cases h2 : l = l'
        · rw [decide_eq_true h2]
          refine iteT ?_
          refine ⟨_, rfl, p, A.Way, dx, _, _, rfl, hp, T.Way.cl, T.w_most, rfl, _, rfl, q, A.Way, dy, _, _, rfl, hq, T.Way.cl, T.w_most, rfl, rfl, _, rfl, ?_⟩
          rw [dvi]
          by_cases h3 : m = m'
          · rw [decide_eq_true h3]
            refine iteT ?_
            refine ⟨_, rfl, p, A.Way, dx, _, _, rfl, hp, T.Way.cl, T.w_boxes, rfl, _, rfl, q, A.Way, dy, _, _, rfl, hq, T.Way.cl, T.w_boxes, rfl, ?_⟩
            refine ⟨_, _, .tup hT ha, .tup hT2 ha2, shp_bxs _, shp_bxs _, ?_⟩
            show Q (.bl (PyData.eqvAll (bs.map bxD) (bs'.map bxD))) H
            rw [eqv_bxs]
            have e : decide (b = b' ∧ l = l' ∧ m = m' ∧ bs = bs') = decide (bs = bs') := by simp [h1, h2, h3]
            rw [e] at k
            exact k
          · rw [decide_eq_false h3]
            rw [decide_eq_false (by simp [h3])] at k
            exact iteF k
        · rw [decide_eq_false h2]
          rw [decide_eq_false (by simp [h2])] at k
          exact iteF k
      · rw [decide_eq_false h1]
        rw [decide_eq_false (by simp [h1])] at k
        exact iteT k
    · refine ⟨_, rfl, _, .ref A.Way, .type (tnD d), .ref A.Way, false, rfl, .own _, dp_ty hd, T.Way.kitB (sub_ty_ref kd_find) rfl, _, rfl, ?_⟩
      exact iteT h
end
end K15

set_option Elab.async false
set_option maxRecDepth 100000
set_option maxHeartbeats 4000000
namespace K15
open PySem PySem.Spec PyProof.Rows L2
structure Good (l m : Int) (bs : List Bx) : Prop where
  d : 1 ≤ l ∧ l ≤ m ∧ m ≤ 50
  n : bs.length ≤ 3
  b : ∀ q ∈ bs, bxOk q l m
section
variable {P : Program} {w : World} {K : PySem.W.Frag} {mg : Str → Option Value} {base : Heap} {A : Ad}
def spBegun (K : PySem.W.Frag) (A : Ad) : Sp := fun vs H Q E => ∃ (p : Addr) (v : V) (d : PyData) (b : Option Int) (l m : Int) (bs : List Bx), vs = [.ref p, v] ∧ MyWay K A H p b l m bs ∧ Good l m bs ∧ Dp K H v d ∧
  (beginD d = false → ∀ H', Ext H H' → ∀ e, H' e = none → E (.ref A.BadPart) (some e) (upd H' e (.xd [("part", .str "begin")]))) ∧
  (∀ b', d = bD b' → bOk b' → ∀ q H', Ext H H' → MyWay K A H' q b' l m bs → Q (.ref q) H')
theorem ok_begun {f : Addr} {fd : FuncData} (F : Fun K "begun_at" "Way.begun_at" s_Way_begun_at f fd) (T : Txt K mg A) (O_Way : OwnC P w K mg base (L2.CX P w) "Way" A.Way 5 pm_Way_init (spWayInit K A)) : FnOk P w K mg base (L2.CX P w) 7 f fd pm_Way_begun_at (spBegun K A) := by
  refine F.okX sc_Way_begun_at (fun vs H Q E h => ?_) (fun cdv A' outer s H vs Q E hr h => ?_)
  · obtain ⟨_, _, _, _, _, _, _, rfl, _⟩ := h
    rfl
  · obtain ⟨p, v, d, b, l, m, bs, rfl, ⟨dx, T', xs, hp, hT, ha⟩, hg, hd, hE, hQ⟩ := h
    refine ⟨_, pss_one (ps_ret (pe_newS O_Way (hr.mono (by decide)) (takes_of rfl rfl rfl rfl) (pa_cons (pv 1) (pa_cons (pe_fld (pv 0) rfl) (pa_cons (pe_fld (pv 0) rfl) (pa_cons (pe_fld (pv 0) rfl) pa_nil)))))), ?_⟩
    refine ⟨_, rfl, _, rfl, p, A.Way, dx, _, _, rfl, hp, T.Way.cl, T.w_least, rfl, _, rfl, p, A.Way, dx, _, _, rfl, hp, T.Way.cl, T.w_most, rfl, _, rfl, p, A.Way, dx, _, _, rfl, hp, T.Way.cl, T.w_boxes, rfl, fun x dn hx hdn hne => ?_⟩
    have e0 := (Ext.upd (o := .own x) hdn).upd' (o := .ins A.Way dn []) (by rw [upd_ne hne.symm]; exact hx)
    refine ⟨x, dn, v, .int l, .int m, .ref T', d, .int l, .int m, .tuple (bs.map bxD), rfl, upd_same, dp_ext e0 _ _ hd, .int _, .int _, .tup (hT.ext e0) (dps_ext e0 _ _ ha), fun s hs H' e1 e he => ?_, fun i hi => ?_, fun hno ds H' hds hw hB => ?_⟩
    · cases hb : beginD d with
      | false =>
        rw [due_begin hb] at hs
        cases hs
        exact hE hb _ (e0.trans e1) e he
      | true =>
        obtain ⟨b', rfl, hb'⟩ := begin_yes hb
        rw [due_ok hb' hg.d (.inr rfl) hg.n hg.b] at hs
        cases hs
    · cases hb : beginD d with
      | false =>
        rw [due_begin hb] at hi
        cases hi
      | true =>
        obtain ⟨b', rfl, hb'⟩ := begin_yes hb
        rw [due_ok hb' hg.d (.inr rfl) hg.n hg.b] at hi
        cases hi
    · refine ⟨rfl, ?_⟩
      cases hds
      obtain ⟨b', _, _, _, rfl, hb', _⟩ := due_none hno
      obtain ⟨T2, ys, h1, h2, h3⟩ := hw
      rw [bV_of hd] at h1
      exact hQ b' rfl hb' x H' (fun a o h => hB a o (ne_of_none h hx) (e0 a o h)) ⟨dn, T2, ys, h1, h2, h3⟩
theorem ok_number {f : Addr} {fd : FuncData} (F : Fun K "_law_number" "_law_number" s__law_number f fd) (T : Txt K mg A) : FnOk P w K mg base CX0 1 f fd pm__law_number (spInteger K) := by
  refine F.ok sc__law_number (fun vs H Q E h => ?_) (fun cdv A' outer s H vs Q E hr h => ?_)
  · obtain ⟨v, k, rfl, _⟩ := h
    rfl
  · obtain ⟨v, d, rfl, hk, q⟩ := h
    refine ⟨_, pss_one (ps_ret (pe_and (pe_callB call_isi (by rfl) T.n_isinstance (by decide +kernel) (pa_cons (pv 0) (pa_cons (pe_bltn (v := .ty "int") (by rfl) T.n_int (by decide +kernel) rfl) pa_nil))) (pe_one (pe_not (pe_callB call_isi (by rfl) T.n_isinstance (by decide +kernel) (pa_cons (pv 0) (pa_cons (pe_bltn (v := .ty "bool") (by rfl) T.n_bool (by decide +kernel) rfl) pa_nil))))))), ?_⟩
    refine ⟨v, rfl, v, .ty "int", .type (tnD d), .type "int", isIntD d, rfl, .ty _, dp_ty hk, kd_int, _, rfl, ?_⟩
    cases h1 : isIntD d with
    | true =>
      rw [h1] at q
      exact iteT ⟨v, rfl, v, .ty "bool", .type (tnD d), .type "bool", isBoolD d, rfl, .ty _, dp_ty hk, kd_bool, _, rfl, q⟩
    | false =>
      rw [h1] at q
      exact iteF q
theorem box_all {ds : List PyData} {l m : Int} (h : boxD (.tuple ds) l m = true) : ∀ d ∈ ds, (isIntD d && !isBoolD d) = true := by
  obtain ⟨⟨a, b, c, d⟩, e, _⟩ := box_yes h
  injection e with e
  subst e
  intro x hx
  simp only [List.mem_cons, List.not_mem_nil, or_false] at hx
  rcases hx with rfl | rfl | rfl | rfl <;> rfl
theorem num_dps {H : Hp} : ∀ {xs : List V} {ds : List PyData}, DpAll K H xs ds → xs.all numV = ds.all fun d => isIntD d && !isBoolD d
  | [], _, h => by cases h; rfl
  | x :: xs, _, h => by
    cases h with
    | cons h1 h2 => rw [List.all_cons, List.all_cons, num_dp h1, num_dps h2]
theorem num_ints : ∀ {xs : List V}, xs.all numV = true → ∃ ns : List Int, xs = ns.map V.int
  | [], _ => ⟨[], rfl⟩
  | x :: xs, h => by
    rw [List.all_cons, Bool.and_eq_true] at h
    obtain ⟨ns, rfl⟩ := num_ints h.2
    cases x <;> first | exact absurd h.1 (by decide) | exact ⟨_ :: ns, rfl⟩ | (exact absurd h.1 (by simp [numV]))
theorem dps_ints {H : Hp} : ∀ {ns : List Int} {ds : List PyData}, DpAll K H (ns.map V.int) ds → ds = ns.map PyData.int
  | [], _, h => by cases h; rfl
  | n :: ns, _, h => by
    cases h with
    | cons h1 h2 =>
      cases h1
      rw [dps_ints h2]
      rfl
theorem flt_num (xs : List V) : (xs.filter fun x => !numV x).isEmpty = xs.all numV := by
  induction xs with
  | nil => rfl
  | cons x xs ih =>
    rw [List.filter_cons, List.all_cons]
    cases hb : numV x
    · simp
    · simpa using ih
def spBoxFits (K : PySem.W.Frag) : Sp := fun vs H Q _ => ∃ v d l m, vs = [v, .int l, .int m] ∧ Dp K H v d ∧ lenD d ≤ 1000 ∧ ∀ H', Ext H H' → Q (.bl (boxD d l m)) H'
theorem ok_boxFits {f : Addr} {fd : FuncData} (F : Fun K "_law_box_fits" "_law_box_fits" s__law_box_fits f fd) (T : Txt K mg A) (O__law_number : Own P w K mg base CX0 "_law_number" 1 pm__law_number (spInteger K)) : FnOk P w K mg base CX0 2 f fd pm__law_box_fits (spBoxFits K) := by
  refine F.ok sc__law_box_fits (fun vs H Q E h => ?_) (fun cdv A' outer s H vs Q E hr h => ?_)
  · obtain ⟨v, d, l, m, rfl, _⟩ := h
    rfl
  · obtain ⟨v, d, l, m, rfl, hk, hsm, q⟩ := h
    refine ⟨_, pss_cons (ps_if (PW.pt (pw_or (pt_not (pt_val (pe_callB call_isi (by rfl) T.n_isinstance (by decide +kernel) (pa_cons (pv 0) (pa_cons (pe_bltn (v := .ty "tuple") (by rfl) T.n_tuple (by decide +kernel) rfl) pa_nil))))) (pw_or (pt_cmpR op_ne (pe_callB call_len_seq (by rfl) T.n_len (by decide +kernel) (pa_cons (pv 0) pa_nil)) (pe_int) (nomark _)) (pw_or1 (pt_truth (pe_lc (own := [("_law_one", 3)]) (g := gName 3) (by rfl) sc__law_box_fits.nd (pi_sq (pv 0)) (blkOk_by (own := [("_law_one", 3)]) (N := nm__law_box_fits) (sc := defScope s__law_box_fits) (by decide +kernel)) (fun _ _ _ _ _ => pg_name (i := 3) sc__law_box_fits.nd rfl (Or.inl rfl)) (fun s1 H1 C1 cl fp => pts_one (pt_not (pt_val (pe_own O__law_number (hr.mono (by decide)) pass0 (pa_cons (pv 3) pa_nil))))) (fun s1 H1 C1 cl fp => pv 3)) (by intro _; rfl)))))) (pss_one (ps_ret (pe_bl))) (pss_nil))
      (pss_cons (ps_if (PW.pt (pw_or (pt_not (pt_chain op_le op_le (pe_int) (pe_ix ix_tup (pv 0) (pe_int) (fun _ _ => rfl)) (pe_ix ix_tup (pv 0) (pe_int) (fun _ _ => rfl)))) (pw_or (pt_cmpR op_gt (pe_ix ix_tup (pv 0) (pe_int) (fun _ _ => rfl)) (pv 1) (nomark _)) (pw_or1 (pt_cmpR op_gt (pe_ix ix_tup (pv 0) (pe_int) (fun _ _ => rfl)) (pv 2) (nomark _)))))) (pss_one (ps_ret (pe_bl))) (pss_nil))
      (pss_one (ps_ret (pe_chain3 op_le op_le op_le (pe_int) (pe_ix ix_tup (pv 0) (pe_int) (fun _ _ => rfl)) (pe_ix ix_tup (pv 0) (pe_int) (fun _ _ => rfl)) (pe_int))))), ?_⟩
    refine ⟨v, rfl, v, .ty "tuple", .type (tnD d), .type "tuple", isTupD d, rfl, .ty _, dp_ty hk, kd_tup, _, rfl, ?_⟩
    cases h1 : isTupD d with
    | false =>
      rw [box_t (by rw [h1]; rfl)] at q
      exact iteT (q _ Ext.rfl')
    | true =>
      refine iteF ?_
      obtain ⟨p, xs, ds, rfl, hx, ha, rfl⟩ := dp_tup hk h1
      have hl := dps_len ha
      refine ⟨_, rfl, p, xs, rfl, .inr hx, rfl, _, rfl, ?_⟩
      rw [dvi]
      by_cases h4 : (xs.length : Int) = 4
      · rw [decide_eq_true h4]
        refine iteF ?_
        refine ⟨_, rfl, p, rfl, lc_sqG (f := fun x => x) (b := fun x => !numV x) (.inr hx) (small1000 (by omega)) (fun x => rfl) (fun x hm H' e' Q' q' => ?_) (fun x hm _ H' e' Q' q' => ⟨x, rfl, q' _ Ext.rfl'⟩) (fun D H2 hD e2 hl2 => ?_)⟩
        · obtain ⟨i, hi⟩ := List.mem_iff_getElem?.mp hm
          obtain ⟨dx, _, hdx⟩ := dps_get (dps_ext e' _ _ ha) hi
          refine ⟨x, rfl, x, dx, rfl, hdx, _, rfl, ?_⟩
          rw [num_dp hdx]
          exact q' _ Ext.rfl'
        · rw [List.map_id'] at hl2
          refine ⟨_, .inl ⟨_, SqL.of hl2, rfl⟩, ?_⟩
          rw [flt_num]
          cases h5 : xs.all numV with
          | false =>
            have hb : boxD (.tuple ds) l m = false := by
              cases hb : boxD (.tuple ds) l m with
              | false => rfl
              | true =>
                rw [num_dps ha, List.all_eq_false] at h5
                obtain ⟨d, hd, hn⟩ := h5
                exact absurd (box_all hb d hd) hn
            rw [hb] at q
            exact iteT (q _ e2)
          | true =>
            refine iteF ?_
            obtain ⟨ns, rfl⟩ := num_ints h5
            obtain rfl := dps_ints ha
            have hn4 : ns.length = 4 := by
              rw [List.length_map] at h4
              omega
            match ns, hn4, hx, q, e2, hl2 with
            | [n, f, s, g], _, hx, q, e2, hl2 =>
              have hx2 := hx.ext e2
              have hb : boxD (.tuple ([n, f, s, g].map PyData.int)) l m = decide (0 ≤ n ∧ n ≤ f ∧ f ≤ m ∧ n ≤ l ∧ 1 ≤ s ∧ s ≤ g ∧ g ≤ 10000) := rfl
              rw [hb] at q
              refine ⟨_, rfl, p, _, 0, .int n, rfl, rfl, hx2, rfl, _, _, rfl, rfl, _, rfl, ?_⟩
              have no : ∀ {H'}, Ext H H' → ¬ (0 ≤ n ∧ n ≤ f ∧ f ≤ m ∧ n ≤ l ∧ 1 ≤ s ∧ s ≤ g ∧ g ≤ 10000) → Q (.bl false) H' := fun e c => by
                have z := q _ e
                rwa [decide_eq_false c] at z
              by_cases c1 : 0 ≤ n
              · rw [decide_eq_true c1]
                refine iteT ⟨_, rfl, p, _, 1, .int f, rfl, rfl, hx2, rfl, _, _, rfl, rfl, _, rfl, ?_⟩
                by_cases c2 : n ≤ f
                · rw [decide_eq_true c2]
                  refine iteF ⟨_, rfl, p, _, 0, .int n, rfl, rfl, hx2, rfl, _, rfl, _, _, rfl, rfl, _, rfl, ?_⟩
                  by_cases c3 : n > l
                  · rw [decide_eq_true c3]
                    exact iteT (no e2 (by omega))
                  · rw [decide_eq_false c3]
                    refine iteF ⟨_, rfl, p, _, 1, .int f, rfl, rfl, hx2, rfl, _, rfl, _, _, rfl, rfl, _, rfl, ?_⟩
                    by_cases c4 : f > m
                    · rw [decide_eq_true c4]
                      exact iteT (no e2 (by omega))
                    · rw [decide_eq_false c4]
                      refine iteF ⟨_, rfl, p, _, 2, .int s, rfl, rfl, hx2, rfl, _, _, rfl, rfl, _, rfl, ?_⟩
                      by_cases c5 : 1 ≤ s
                      · rw [decide_eq_true c5]
                        refine iteT ⟨_, rfl, p, _, 3, .int g, rfl, rfl, hx2, rfl, _, _, rfl, rfl, _, rfl, ?_⟩
                        by_cases c6 : s ≤ g
                        · rw [decide_eq_true c6]
                          refine iteT ⟨_, _, rfl, rfl, ?_⟩
                          have z := q _ e2
                          rwa [show decide (0 ≤ n ∧ n ≤ f ∧ f ≤ m ∧ n ≤ l ∧ 1 ≤ s ∧ s ≤ g ∧ g ≤ 10000) = decide (g ≤ 10000) by
                            rw [Bool.eq_iff_iff, decide_eq_true_eq, decide_eq_true_eq]
                            omega] at z
                        · rw [decide_eq_false c6]
                          exact iteF (no e2 (by omega))
                      · rw [decide_eq_false c5]
                        exact iteF (no e2 (by omega))
                · rw [decide_eq_false c2]
                  exact iteT (no e2 (by omega))
              · rw [decide_eq_false c1]
                exact iteF ⟨_, rfl, iteT (no e2 (by omega))⟩
      · rw [decide_eq_false h4]
        have hb : boxD (.tuple ds) l m = false := box_t (by
          rw [decide_eq_false (by show ¬ ((ds.length : Nat) : Int) = 4; omega)]
          rfl)
        rw [hb] at q
        exact iteT (q _ Ext.rfl')
end
end K15

set_option Elab.async false
set_option maxRecDepth 100000
set_option maxHeartbeats 4000000
namespace K15
open PySem PySem.Spec PyProof.Rows L2
section
variable {P : Program} {w : World} {K : PySem.W.Frag} {mg : Str → Option Value} {base : Heap} {A : Ad}
def spDue (K : PySem.W.Frag) : Sp := fun vs H Q _ => ∃ (vb vl vm vx : V) (b l m x : PyData), vs = [vb, vl, vm, vx] ∧ Dp K H vb b ∧ Dp K H vl l ∧ Dp K H vm m ∧ Dp K H vx x ∧ isTupD x = false ∧ (∀ ds, itemsD x = some ds → ds.length ≤ 1000 ∧ ∀ d ∈ ds, lenD d ≤ 1000) ∧
  (wayDue b l m x = none → ∀ H', Ext H H' → Q .non H') ∧
  (∀ s, wayDue b l m x = some (.inl s) → ∀ t H', Ext H H' → H' t = some (.tup [.str "part", .str s]) → Q (.ref t) H') ∧
  (∀ i, wayDue b l m x = some (.inr i) → ∀ t H', Ext H H' → H' t = some (.tup [.str "box", .int (i : Nat)]) → Q (.ref t) H')
theorem ok_due {f : Addr} {fd : FuncData} (F : Fun K "_law_due" "_law_due" s__law_due f fd) (T : Txt K mg A) (O__law_number : Own P w K mg base CX0 "_law_number" 1 pm__law_number (spInteger K)) (O__law_box_fits : Own P w K mg base CX0 "_law_box_fits" 2 pm__law_box_fits (spBoxFits K)) :
    FnOk P w K mg base CX0 3 f fd pm__law_due (spDue K) := by
  refine F.ok sc__law_due (fun vs H Q E h => ?_) (fun cdv A' outer s H vs Q E hr h => ?_)
  · obtain ⟨_, _, _, _, _, _, _, _, rfl, _⟩ := h
    rfl
  · obtain ⟨vb, vl, vm, vx, b, l, m, x, rfl, hb, hl, hm, hx, htup, hsm, qn, qp, qb⟩ := h
    refine ⟨_, Evl.pss_cut (ps_if (PW.pt (pw_and (pt_cmpR op_notN (pv 0) (pe_non) (nomark _)) (pw_and1 (PW.pt (pw_or (pt_not (pt_val (pe_own O__law_number (hr.mono (by decide)) pass0 (pa_cons (pv 0) pa_nil)))) (pw_or1 (pt_not (pt_chain op_le op_le (pe_int) (pv 0) (pe_int))))))))) (pss_one (ps_ret (pe_tup (pa_cons (pe_str) (pa_cons (pe_str) pa_nil))))) (pss_nil))
      (pss_cons (ps_if (PW.pt (pw_or (pt_not (pt_val (pe_own O__law_number (hr.mono (by decide)) pass0 (pa_cons (pv 1) pa_nil)))) (pw_or (pt_not (pt_val (pe_own O__law_number (hr.mono (by decide)) pass0 (pa_cons (pv 2) pa_nil)))) (pw_or1 (pt_not (pt_chain3 op_le op_le op_le (pe_int) (pv 1) (pv 2) (pe_int))))))) (pss_one (ps_ret (pe_tup (pa_cons (pe_str) (pa_cons (pe_str) pa_nil))))) (pss_nil))
      (pss_cons (ps_if (PW.pt (pw_or (pt_not (pt_val (pe_callB call_isi (by rfl) T.n_isinstance (by decide +kernel) (pa_cons (pv 3) (pa_cons (pe_bltn (v := .ty "list") (by rfl) T.n_list (by decide +kernel) rfl) pa_nil))))) (pw_or1 (pt_cmpR op_gt (pe_callB call_len_seq (by rfl) T.n_len (by decide +kernel) (pa_cons (pv 3) pa_nil)) (pe_int) (nomark _))))) (pss_one (ps_ret (pe_tup (pa_cons (pe_str) (pa_cons (pe_str) pa_nil))))) (pss_nil))
      (pss_cons (ps_for PassesOwn.never rfl (pi_range1 rfl T.n_range (pa_cons (pe_callB call_len_seq (by rfl) T.n_len (by decide +kernel) (pa_cons (pv 3) pa_nil)) pa_nil)) (pg_name (i := 4) sc__law_due.nd rfl (Or.inl rfl)) (pss_one (ps_if (pt_not (pt_val (pe_own O__law_box_fits (hr.mono (by decide)) pass0 (pa_cons (pe_ix ix_list (pv 3) (pv 4) (fun _ _ => rfl)) (pa_cons (pv 1) (pa_cons (pv 2) pa_nil)))))) (pss_one (ps_ret (pe_tup (pa_cons (pe_str) (pa_cons (pv 4) pa_nil))))) (pss_nil))))
      (pss_one (ps_ret (pe_non)))))), ?_⟩
    have rp : ∀ (s : Str) (H' : Hp), wayDue b l m x = some (.inl s) → Ext H H' → [V.str "part", V.str s].length ≤ sizeLine ∧ ∀ t, H' t = none → Q (.ref t) (upd H' t (.tup [V.str "part", V.str s])) := fun s H' hd e => ⟨by show 2 ≤ sizeLine; decide, fun t ht => qp s hd t _ (e.upd' ht) upd_same⟩
    refine ⟨fun σ H' => σ = [some vb, some vl, some vm, some vx, Option.none] ∧ H' = H ∧ beginD b = true, ?_, ?_⟩
    · refine ⟨vb, rfl, rfl, _, rfl, ?_⟩
      rw [non_dp hb]
      cases hnb : isNoneD b with
      | true => exact iteF ⟨rfl, rfl, by unfold beginD; rw [hnb]; rfl⟩
      | false =>
        have bb : beginD b = betD b 0 1000 := by
          unfold beginD
          rw [hnb]
          rfl
        refine iteT ⟨vb, rfl, vb, b, rfl, hb, _, rfl, ?_⟩
        cases h1 : (isIntD b && !isBoolD b) with
        | false => exact iteT (rp _ _ (due_begin (by rw [bb, bet_not h1])) Ext.rfl')
        | true =>
          obtain ⟨n, rfl⟩ := int_yes h1
          obtain rfl := dp_int hb
          rw [bet_int] at bb
          refine iteF ⟨_, rfl, _, _, rfl, rfl, _, rfl, ?_⟩
          by_cases c1 : 0 ≤ n
          · rw [decide_eq_true c1]
            refine iteT ⟨_, _, rfl, rfl, _, rfl, ?_⟩
            by_cases c2 : n ≤ 1000
            · rw [decide_eq_true c2]
              exact iteF ⟨rfl, rfl, by rw [bb, decide_eq_true c1, decide_eq_true c2]; rfl⟩
            · rw [decide_eq_false c2]
              exact iteT (rp _ _ (due_begin (by rw [bb, decide_eq_false c2, Bool.and_false])) Ext.rfl')
          · rw [decide_eq_false c1]
            exact iteF ⟨_, rfl, iteT (rp _ _ (due_begin (by rw [bb, decide_eq_false c1, Bool.false_and])) Ext.rfl')⟩
    · rintro σ H1 ⟨rfl, rfl, hbg⟩
      have dd : delaysD l m = false → wayDue b l m x = some (.inl "delays") := fun h => by
        unfold wayDue
        rw [hbg, if_neg (by decide), if_pos h]
      refine ⟨vl, rfl, vl, l, rfl, hl, _, rfl, ?_⟩
      cases h1 : (isIntD l && !isBoolD l) with
      | false => exact iteT (rp _ _ (dd (by cases l <;> first | rfl | cases h1)) Ext.rfl')
      | true =>
        obtain ⟨li, rfl⟩ := int_yes h1
        obtain rfl := dp_int hl
        refine iteF ⟨vm, rfl, vm, m, rfl, hm, _, rfl, ?_⟩
        cases h2 : (isIntD m && !isBoolD m) with
        | false => exact iteT (rp _ _ (dd (by cases m <;> first | rfl | cases h2)) Ext.rfl')
        | true =>
          obtain ⟨mi, rfl⟩ := int_yes h2
          obtain rfl := dp_int hm
          have ddi : delaysD (.int li) (.int mi) = (decide (1 ≤ li) && decide (li ≤ mi) && decide (mi ≤ 50)) := rfl
          refine iteF ⟨_, rfl, _, _, rfl, rfl, _, rfl, ?_⟩
          by_cases c1 : 1 ≤ li
          · rw [decide_eq_true c1]
            refine iteT ⟨_, rfl, _, _, rfl, rfl, _, rfl, ?_⟩
            by_cases c2 : li ≤ mi
            · rw [decide_eq_true c2]
              refine iteT ⟨_, _, rfl, rfl, _, rfl, ?_⟩
              by_cases c3 : mi ≤ 50
              · rw [decide_eq_true c3]
                refine iteF ?_
                have hdl : delaysD (.int li) (.int mi) = true := by
                  rw [ddi, decide_eq_true c1, decide_eq_true c2, decide_eq_true c3]
                  rfl
                have db : (isSeqD x && (decide ((0 : Int) ≤ (lenD x : Int)) && decide ((lenD x : Int) ≤ 3))) = false → wayDue b (.int li) (.int mi) x = some (.inl "boxes") := fun h => by
                  unfold wayDue
                  rw [hbg, if_neg (by decide), hdl, if_neg (by decide), if_pos h]
                refine ⟨vx, rfl, vx, .ty "list", .type (tnD x), .type "list", isListD x, rfl, .ty _, dp_ty hx, kd_list, _, rfl, ?_⟩
                cases h3 : isListD x with
                | false => exact iteT (rp _ _ (db (by cases x <;> first | rfl | (cases h3; done) | (cases htup; done))) Ext.rfl')
                | true =>
                  refine iteF ?_
                  cases hx with
                  | @lst a xs ds hsq ha =>
                    have hlen := dps_len ha
                    obtain ⟨sm1, sm2⟩ := hsm ds rfl
                    refine ⟨_, rfl, a, xs, rfl, .inl hsq, _, _, rfl, rfl, _, rfl, ?_⟩
                    by_cases c4 : (xs.length : Int) > 3
                    · rw [decide_eq_true c4]
                      refine iteT (rp _ _ (db ?_) Ext.rfl')
                      have c5 : ¬ ((lenD (.list ds) : Int) ≤ 3) := by
                        show ¬ ((ds.length : Int) ≤ 3)
                        omega
                      rw [decide_eq_false c5, Bool.and_false, Bool.and_false]
                    · rw [decide_eq_false c4]
                      refine iteF ?_
                      have h5 : (isSeqD (.list ds) && (decide ((0 : Int) ≤ (lenD (.list ds) : Int)) && decide ((lenD (.list ds) : Int) ≤ 3))) = true := by
                        show (true && (decide ((0 : Int) ≤ (ds.length : Int)) && decide ((ds.length : Int) ≤ 3))) = true
                        rw [decide_eq_true (by omega), decide_eq_true (by omega)]
                        rfl
                      have due : wayDue b (.int li) (.int mi) (.list ds) = (ds.findIdx? fun d => !boxD d li mi).map .inr := by
                        unfold wayDue
                        rw [hbg, if_neg (by decide), hdl, if_neg (by decide), h5, if_neg (by decide)]
                        rfl
                      rw [due] at qn qb
                      refine ⟨_, rfl, a, xs, rfl, .inl hsq, _, rfl, by omega, by omega, ?_⟩
                      have tn : ((xs.length : Int)).toNat = xs.length := Int.toNat_natCast _
                      refine for_it (walk_range (lo := 0) (n := ((xs.length : Int)).toNat)) (fun i σ' H' => Ext H1 H' ∧ (∃ o, σ' = [some vb, some (.int li), some (.int mi), some (.ref a), o]) ∧ ∀ j d, j < i → ds[j]? = some d → boxD d li mi = true)
                        ⟨Ext.rfl', ⟨_, rfl⟩, fun j d hj _ => absurd hj (Nat.not_lt_zero _)⟩ (fun _ _ _ _ _ => trivial) (fun i v σ' H' H2 hi pv hy => ?_) (fun σ' H' pv => ?_)
                      · obtain ⟨e2, ⟨o, rfl⟩, hok⟩ := pv
                        obtain ⟨rfl, rfl⟩ := hy
                        rw [tn] at hi
                        obtain ⟨v, hv⟩ : ∃ v, xs[i]? = some v := ⟨_, List.getElem?_eq_getElem hi⟩
                        obtain ⟨d, hdi, hdv⟩ := dps_get (dps_ext e2 _ _ ha) hv
                        have z0 : (0 : Int) + (i : Int) = (i : Int) := by omega
                        dsimp only
                        rw [z0]
                        refine ⟨_, rfl, _, rfl, a, xs, (i : Int), v, rfl, rfl, hsq.ext e2, atI_nat hv, _, rfl, _, rfl, v, d, li, mi, rfl, hdv, sm2 d (List.mem_of_getElem? hdi), fun H3 e3 => ⟨_, rfl, ?_⟩⟩
                        cases h6 : boxD d li mi with
                        | false =>
                          refine iteT ⟨_, rfl, by show 2 ≤ sizeLine; decide, fun t ht => qb i ?_ t _ ((e2.trans e3).upd' ht) upd_same⟩
                          rw [find_at (f := fun d => !boxD d li mi) (fun j d hj hd => by rw [hok j d hj hd]; rfl) hdi (by rw [h6]; rfl)]
                          rfl
                        | true =>
                          refine iteF ⟨e2.trans e3, ⟨_, rfl⟩, fun j d' hj hd' => ?_⟩
                          rcases Nat.lt_succ_iff_lt_or_eq.mp hj with hj | rfl
                          · exact hok j d' hj hd'
                          · rw [hdi] at hd'
                            cases hd'
                            exact h6
                      · obtain ⟨e2, ⟨o, rfl⟩, hok⟩ := pv
                        refine qn ?_ _ e2
                        rw [find_no (f := fun d => !boxD d li mi) fun j d hd => ?_]
                        · rfl
                        · have hj : j < ((xs.length : Int)).toNat := by
                            rw [tn, hlen]
                            exact (List.getElem?_eq_some_iff.mp hd).1
                          rw [hok j d hj hd]
                          rfl
                  | _ => cases h3
              · rw [decide_eq_false c3]
                exact iteT (rp _ _ (dd (by rw [ddi, decide_eq_false c3, Bool.and_false])) Ext.rfl')
            · rw [decide_eq_false c2]
              exact iteF ⟨_, rfl, iteT (rp _ _ (dd (by rw [ddi, decide_eq_false c2, Bool.and_false, Bool.false_and])) Ext.rfl')⟩
          · rw [decide_eq_false c1]
            exact iteF ⟨_, rfl, iteT (rp _ _ (dd (by rw [ddi, decide_eq_false c1, Bool.false_and, Bool.false_and])) Ext.rfl')⟩
end
end K15

set_option Elab.async false
set_option maxRecDepth 100000
set_option maxHeartbeats 4000000
namespace K15
open PySem PySem.Spec PyProof.Rows L2 L2H
section
variable {P : Program} {w : World} {K : PySem.W.Frag} {mg : Str → Option Value} {base : Heap} {A : Ad}
/-- what the error that is held tells -/
def spName (A : Ad) (a : Addr) (cls : Value) (d : Option Addr) : Sp := fun vs H Q _ => vs = [.ref a] ∧ ∃ dd, d = some dd ∧
  ((cls = .ref A.BadPart ∧ ∃ s : Str, H dd = some (.xd [("part", .str s)]) ∧ ∀ t H', Ext H H' → H' t = some (.tup [.str "part", .str s]) → Q (.ref t) H') ∨
   (cls = .ref A.BadBox ∧ ∃ i : Int, H dd = some (.xd [("index", .int i)]) ∧ ∀ t H', Ext H H' → H' t = some (.tup [.str "box", .int i]) → Q (.ref t) H'))
def spNameE (A : Ad) : Addr × Obj → Sp := fun p vs H Q E => ∃ cls d, Zc cls d p.2 ∧ (∃ us, p.2.data = .fields us) ∧ spName A p.1 cls d vs H Q E
theorem ok_name {f : Addr} {fd : FuncData} (F : Fun K "_law_name" "_law_name" s__law_name f fd) (T : Txt K mg A) : FnE P w K mg base CX0 2 f fd pm__law_name (spNameE A) := by
  refine fnE_of F sc__law_name (fun p vs H Q E h => ?_) (fun p cdv AA outer sh H vs Q E hr h => ?_)
  · obtain ⟨_, _, _, _, rfl, _⟩ := h
    rfl
  · obtain ⟨a, oe⟩ := p
    obtain ⟨cls, d, hz, hf, rfl, dd, rfl, h⟩ := h
    have hpn : (a, oe) ∈ (cxH CX0 P w K mg base nm__law_name "_law_name" (defScope s__law_name) f cdv AA outer sh H E (a, oe)).pn := List.mem_singleton.mpr rfl
    rcases h with ⟨rfl, s, hd, q⟩ | ⟨rfl, i, hd, q⟩
    · refine ⟨_, pss_cons (ps_if (pt_val (pe_callB (call_isEP hpn T.BadPart.ec hz hf) (by rfl) T.n_isinstance (by decide +kernel) (pa_cons (pv 0) (pa_cons (pe_gcls T.BadPart.gC) pa_nil))))
          (pss_one (ps_ret (pe_tup (pa_cons (pe_str) (pa_cons (pe_xfP hpn ⟨T.BadPart.ec.hg, T.BadPart.ec.hk, T.BadPart.ec.hs, T.BadPart.ec.hd⟩ T.BadPart.noA hz hf (pv 0)) pa_nil))))) (pss_nil))
        (pss_cons (ps_if (pt_val (pe_callB (call_isEP hpn T.BadPart.ec hz hf) (by rfl) T.n_isinstance (by decide +kernel) (pa_cons (pv 0) (pa_cons (pe_gcls T.BadBox.gC) pa_nil))))
          (pss_one (ps_ret (pe_tup (pa_cons (pe_str) (pa_cons (pe_xfP hpn ⟨T.BadBox.ec.hg, T.BadBox.ec.hk, T.BadBox.ec.hs, T.BadBox.ec.hd⟩ T.BadBox.noA hz hf (pv 0)) pa_nil))))) (pss_nil))
        (pss_one (ps_ret (pe_tup (pa_cons (pe_str) pa_nil))))), ?_⟩
      refine ⟨_, rfl, rfl, (fun dd h => ⟨_, by cases h; exact hd⟩), .ref A.BadPart, .ref A.BadPart, true, rfl, fun u h => h, T.x_pp, _, rfl, iteT ?_⟩
      refine ⟨_, rfl, rfl, rfl, _, _, _, rfl, hd, rfl, by show 2 ≤ sizeLine; decide, fun t ht => q t _ (Ext.upd ht) upd_same⟩
    · refine ⟨_, pss_cons (ps_if (pt_val (pe_callB (call_isEP hpn T.BadBox.ec hz hf) (by rfl) T.n_isinstance (by decide +kernel) (pa_cons (pv 0) (pa_cons (pe_gcls T.BadPart.gC) pa_nil))))
          (pss_one (ps_ret (pe_tup (pa_cons (pe_str) (pa_cons (pe_xfP hpn ⟨T.BadPart.ec.hg, T.BadPart.ec.hk, T.BadPart.ec.hs, T.BadPart.ec.hd⟩ T.BadPart.noA hz hf (pv 0)) pa_nil))))) (pss_nil))
        (pss_cons (ps_if (pt_val (pe_callB (call_isEP hpn T.BadBox.ec hz hf) (by rfl) T.n_isinstance (by decide +kernel) (pa_cons (pv 0) (pa_cons (pe_gcls T.BadBox.gC) pa_nil))))
          (pss_one (ps_ret (pe_tup (pa_cons (pe_str) (pa_cons (pe_xfP hpn ⟨T.BadBox.ec.hg, T.BadBox.ec.hk, T.BadBox.ec.hs, T.BadBox.ec.hd⟩ T.BadBox.noA hz hf (pv 0)) pa_nil))))) (pss_nil))
        (pss_one (ps_ret (pe_tup (pa_cons (pe_str) pa_nil))))), ?_⟩
      refine ⟨_, rfl, rfl, (fun dd h => ⟨_, by cases h; exact hd⟩), .ref A.BadPart, .ref A.BadPart, false, rfl, fun u h => h, T.x_bp, _, rfl, iteF ?_⟩
      refine ⟨_, rfl, rfl, (fun dd h => ⟨_, by cases h; exact hd⟩), .ref A.BadBox, .ref A.BadBox, true, rfl, fun u h => h, T.x_bb, _, rfl, iteT ?_⟩
      refine ⟨_, rfl, rfl, rfl, _, _, _, rfl, hd, rfl, by show 2 ≤ sizeLine; decide, fun t ht => q t _ (Ext.upd ht) upd_same⟩
/-- _law_name, callable in a suite -/
structure OwnE (P : Program) (w : World) (K : PySem.W.Frag) (mg : Str → Option Value) (base : Heap) (A : Ad) : Prop where
  ex : ∃ (f : Addr) (fd : FuncData), FnE P w K mg base CX0 2 f fd pm__law_name (spNameE A) ∧ mg "_law_name" = some (.ref f) ∧ PySem.W.keepIn K (.ref f) = true ∧ Binds K fd pm__law_name []
theorem pe_name {X : Cx} {a : Addr} {oe : Obj} {cls : Value} {d : Option Addr} {pn : List (Addr × Obj)} {e : Expr} {p pos : Pos} {i : Nat} (O : OwnE X.prog X.w X.K X.mg X.base A) (hz : Zc cls d oe) (hf : ∃ us, oe.data = .fields us) (hr : RoomH 2 X.A)
    (he : PE (X.suite a ((a, oe) :: pn)) e (tVar i)) (hg : Gl X "_law_name" := by rfl) (h1 : starEach [e] X.env = (false, eval e X.env) :: starEach [] X.env := by rfl) : PE (X.suite a ((a, oe) :: pn)) (.Call (.Name "_law_name" p) [e] [] pos) (tCall (spName A a cls d) [] E0 (tCons (tVar i) tNil)) := by
  obtain ⟨f, fd, F, hm, hk, hb⟩ := O.ex
  refine PE.imp (pe_callE (X := X.suite a ((a, oe) :: pn)) (p := (a, oe)) F ⟨hr.dp, hr.un⟩ List.mem_cons_self hg hm hk hb pass0 (pa_cons he pa_nil h1) (by decide) h1) (fun σ H Q h => ?_)
  obtain ⟨v, hv, h⟩ := h
  exact ⟨v, hv, cls, d, hz, hf, h⟩
def tbAgain (A : Ad) (K : PySem.W.Frag) (W : WX) : TS := tAsg (tFld K (tMethSD A.Way "begun_at" (spBegun K A) [] (WE W) (tVar 0) (tCons (tVar 1) tNil)) "begin") (gName 2)
def tsName (A : Ad) (i : Nat) (a : Addr) (cls : Value) (d : Option Addr) : TS := tRet (tCall (spName A a cls d) [] E0 (tCons (tVar i) tNil))
def spAgain (K : PySem.W.Frag) (A : Ad) : Sp := fun vs H Q _ => ∃ (p : Addr) (v : V) (d : PyData) (b : Option Int) (l m : Int) (bs : List Bx), vs = [.ref p, v] ∧ MyWay K A H p b l m bs ∧ Good l m bs ∧ Dp K H v d ∧
  (beginD d = false → ∀ t H', Ext H H' → H' t = some (.tup [.str "part", .str "begin"]) → Q (.ref t) H') ∧
  (∀ b', d = bD b' → bOk b' → ∀ t H', Ext H H' → H' t = some (.tup [.str "begun", bV b']) → Q (.ref t) H')
theorem ok_again {f : Addr} {fd : FuncData} (F : Fun K "_law_again" "_law_again" s__law_again f fd) (T : Txt K mg A) (O_begun : OwnM P w K mg base (L2.CX P w) A.Way "begun_at" 7 pm_Way_begun_at (spBegun K A)) (O_name : OwnE P w K mg base A) : FnOk P w K mg base CX0 9 f fd pm__law_again (spAgain K A) := by
  refine F.ok sc__law_again (fun vs H Q E h => ?_) (fun cdv A' outer s H vs Q E hr h => ?_)
  · obtain ⟨_, _, _, _, _, _, _, rfl, _⟩ := h
    rfl
  · obtain ⟨p, v, d, b, l, m, bs, rfl, hw, hg, hd, q0, q1⟩ := h
    refine ⟨_, pss_cons (ps_set (i := 2) sc__law_again.nd rfl (Or.inl rfl) (pe_non)) (pss_cons (ps_try_as (i := 3) (tb := tbAgain A K) (ts := tsName A 3) (Wout := fun _ _ _ _ => False) rfl rfl sc__law_again.nd rfl rfl ⟨rfl, by decide, Or.inl T.g_WholeError⟩ takes0
        (fun W pn xe tk _ => pss_one (ps_set (i := 2) sc__law_again.nd rfl (Or.inl rfl) (pe_fld (by exact (pe_ownMS O_begun (pv 0) T.Way.cl (hr.mono (by decide)) tk (pa_cons (pv 1) pa_nil))) rfl)))
        (fun a oe cls d pn hz hf => pss_one (ps_ret (by exact (pe_name O_name hz hf (roomH_of (hr.mono (by decide))) (pv 3))))))
      (pss_one (ps_ret (pe_tup (pa_cons (pe_str) (pa_cons (pv 2) pa_nil)))))), ?_⟩
    obtain ⟨dx, T', xs, hp, hT, ha⟩ := id hw
    refine ⟨_, rfl, p, dx, _, rfl, hp, rfl, _, rfl, p, v, d, b, l, m, bs, rfl, hw, hg, hd, fun hb H' e1 e he => ?_, fun b' hd' hb' q H' e1 hq => ?_⟩
    · refine ⟨true, T.x_pw, fun _ a ha => ?_, fun z => nomatch z⟩
      refine ⟨_, rfl, rfl, e, rfl, .inl ⟨rfl, "begin", upd_same, fun t H2 e2 ht => ?_⟩⟩
      exact q0 hb t H2 ((e1.trans (Ext.upd he)).trans e2) ht
    · obtain ⟨dq, T2, ys, h1, h2, h3⟩ := hq
      refine ⟨q, A.Way, dq, _, _, rfl, h1, T.Way.cl, T.w_begin, rfl, ?_⟩
      exact ⟨_, rfl, by show 2 ≤ sizeLine; decide, fun t ht => q1 b' hd' hb' t _ (e1.trans (Ext.upd ht)) upd_same⟩
end
end K15

set_option Elab.async false
set_option maxRecDepth 100000
set_option maxHeartbeats 4000000
namespace K15
open PySem PySem.Spec PyProof.Rows L2
/-! ### the state that is drawn from: a list of the cells and a count -/
def StAt (H : Hp) (b s : Addr) (N : Nat) : Prop := ∃ (ns : List Int) (i : Int), H b = some (.lst [.ref s, .int i]) ∧ H s = some (.lst (ns.map V.int)) ∧ ns.length ≤ 63 ∧ 0 ≤ i ∧ i ≤ N
def ExtS (b s : Addr) (H H' : Hp) : Prop := ∀ x o, x ≠ b → x ≠ s → H x = some o → H' x = some o
theorem ExtS.rfl' {b s : Addr} {H : Hp} : ExtS b s H H := fun _ _ _ _ h => h
theorem ExtS.trans {b s : Addr} {H H1 H2 : Hp} (a : ExtS b s H H1) (c : ExtS b s H1 H2) : ExtS b s H H2 := fun x o h1 h2 e => c x o h1 h2 (a x o h1 h2 e)
theorem Ext.s {b s : Addr} {H H' : Hp} (h : Ext H H') : ExtS b s H H' := fun x o _ _ e => h x o e
theorem StAt.ext {b s : Addr} {H H' : Hp} {N : Nat} (h : StAt H b s N) (e : Ext H H') : StAt H' b s N := by
  obtain ⟨ns, i, hb, hs, h⟩ := h
  exact ⟨ns, i, e _ _ hb, e _ _ hs, h⟩
theorem StAt.le {b s : Addr} {H : Hp} {N M : Nat} (h : StAt H b s N) (e : N ≤ M) : StAt H b s M := by
  obtain ⟨ns, i, hb, hs, h1, h2, h3⟩ := h
  exact ⟨ns, i, hb, hs, h1, h2, by omega⟩
theorem StAt.new {b s l : Addr} {H : Hp} {N : Nat} (h : StAt H b s N) (hl : H l = none) : l ≠ b ∧ l ≠ s := by
  obtain ⟨ns, i, hb, hs, _⟩ := h
  exact ⟨(ne_of_none hb hl).symm, (ne_of_none hs hl).symm⟩
theorem StAt.upd {b s l : Addr} {H : Hp} {N : Nat} {o : HO} (h : StAt H b s N) (hb : l ≠ b) (hs : l ≠ s) : StAt (L2.upd H l o) b s N := by
  obtain ⟨ns, i, h1, h2, h⟩ := h
  exact ⟨ns, i, by rw [upd_ne hb.symm]; exact h1, by rw [upd_ne hs.symm]; exact h2, h⟩
theorem ExtS.mut {b s l : Addr} {H H' : Hp} {o : HO} (e : ExtS b s H H') (hl : H l = none) : ExtS b s H (L2.upd H' l o) := fun x u h1 h2 h => by
  rw [upd_ne (ne_of_none h hl)]
  exact e x u h1 h2 h
theorem ExtS.none {b s t : Addr} {H H' : Hp} (e : ExtS b s H H') (h1 : t ≠ b) (h2 : t ≠ s) (h : H' t = none) : H t = none := by
  cases z : H t with
  | none => rfl
  | some o =>
    rw [e t o h1 h2 z] at h
    cases h
section
variable {P : Program} {w : World} {K : PySem.W.Frag} {mg : Str → Option Value} {base : Heap} {A : Ad}
def spDraw : Sp := fun vs H Q _ => ∃ (b s : Addr) (N : Nat) (L : Int), vs = [.ref b, .int L] ∧ StAt H b s N ∧ N ≤ 1000000 ∧ 1 ≤ L ∧ L ≤ 100000 ∧
  ∀ n H', 0 ≤ n → n < L → StAt H' b s (N + 1) → ExtS b s H H' → Q (.int n) H'
theorem ok_draw {f : Addr} {fd : FuncData} (F : Fun K "_law_draw" "_law_draw" s__law_draw f fd) (T : Txt K mg A) : FnOk P w K mg base CX0 1 f fd pm__law_draw spDraw := by
  refine F.ok sc__law_draw (fun vs H Q E h => ?_) (fun cdv A' outer sh H vs Q E hr h => ?_)
  · obtain ⟨_, _, _, _, rfl, _⟩ := h
    rfl
  · obtain ⟨b, s, N, L, rfl, ⟨ns, i, hb, hs, n63, i0, iN⟩, hN, hL, hL2, k⟩ := h
    have nsb : s ≠ b := ne_of hs hb (by intro z; injection z with z; cases ns <;> simp at z)
    refine ⟨_, pss_cons (ps_set (i := 2) sc__law_draw.nd rfl (Or.inl rfl) (pe_ix ix_list (pv 0) (pe_int) (fun _ _ => rfl)))
      (pss_cons (ps_if (pt_not (pt_truth (pv 2) (by intro _; rfl))) (pss_one (ps_ret (pe_int))) (pss_nil))
      (pss_cons (ps_set (i := 3) sc__law_draw.nd rfl (Or.inl rfl) (pe_op op_modN (pe_callTy call_int1 (by rfl) T.n_int (by decide +kernel) (pa_cons (pe_ix ix_list (pv 0) (pe_int) (fun _ _ => rfl)) pa_nil)) (pe_callB call_len_seq (by rfl) T.n_len (by decide +kernel) (pa_cons (pv 2) pa_nil))))
      (pss_cons (ps_set (i := 4) sc__law_draw.nd rfl (Or.inl rfl) (pe_ix ix_list (pv 2) (pv 3) (fun _ _ => rfl)))
      (pss_cons (ps_asg (pe_op op_add (pe_ix ix_list (pv 0) (pe_int) (fun _ _ => rfl)) (pe_int)) (pg_sub (pv 0) (pe_int) set_list))
      (pss_cons (ps_if (pt_cmpR op_ge (pv 4) (pe_op op_pow (pe_int) (pe_int)) (nomark _)) (pss_cons (ps_asg (pe_op op_fdivN (pv 4) (pv 1)) (pg_sub (pv 2) (pv 3) set_list))
      (pss_one (ps_ret (pe_op op_modN (pe_callTy call_int1 (by rfl) T.n_int (by decide +kernel) (pa_cons (pv 4) pa_nil)) (pv 1))))) (pss_nil))
      (pss_cons (ps_set (i := 5) sc__law_draw.nd rfl (Or.inl rfl) (pe_op op_mod (pe_callTy call_int1 (by rfl) T.n_int (by decide +kernel) (pa_cons (pe_op op_add (pe_op op_add (pe_op op_mul (pv 4) (pe_int)) (pe_op op_mul (pe_ix ix_list (pv 0) (pe_int) (fun _ _ => rfl)) (pe_int))) (pe_int)) pa_nil)) (pe_int)))
      (pss_one (ps_ret (pe_op op_modN (pe_op op_mod (pe_callTy call_int1 (by rfl) T.n_int (by decide +kernel) (pa_cons (pe_op op_add (pe_op op_mul (pv 5) (pe_int)) (pe_op op_mul (pe_ix ix_list (pv 0) (pe_int) (fun _ _ => rfl)) (pe_int))) pa_nil)) (pe_int)) (pv 1)))))))))), ?_⟩
    refine ⟨_, rfl, b, _, 0, .ref s, rfl, rfl, SqL.of hb, rfl, ?_⟩
    refine ⟨_, rfl, _, .inl ⟨_, SqL.of hs, rfl⟩, ?_⟩
    by_cases hl0 : ns.length = 0
    · have hns := List.length_eq_zero_iff.mp hl0
      subst hns
      exact iteT (k 0 H (Int.le_refl _) (by omega) ⟨[], i, hb, hs, n63, i0, by omega⟩ ExtS.rfl')
    · have hne : (!(!(ns.map V.int).isEmpty)) = false := by
        cases ns with
        | nil => exact absurd rfl hl0
        | cons _ _ => rfl
      show if (!(!(ns.map V.int).isEmpty)) = true then _ else _
      rw [hne]
      refine iteF ?_
      have hlp : (0 : Int) < (ns.length : Int) := by omega
      obtain ⟨j, hj⟩ : ∃ j : Nat, i.fmod (ns.length : Int) = (j : Int) := ⟨(i.fmod (ns.length : Int)).toNat, (Int.toNat_of_nonneg (Int.fmod_nonneg_of_pos _ hlp)).symm⟩
      have hjl : j < ns.length := by
        have z := Int.fmod_lt_of_pos i hlp
        omega
      refine ⟨_, rfl, b, _, 1, .int i, rfl, rfl, SqL.of hb, rfl, .inl ⟨_, rfl, _, rfl, s, _, rfl, .inl (SqL.of hs), _, _, rfl, rfl, (by show ((ns.map V.int).length : Int) ≠ 0; rw [List.length_map]; omega), ?_⟩⟩
      have hj' : i.fmod ((ns.map V.int).length : Int) = (j : Int) := by rw [List.length_map]; exact hj
      have hjv : (ns.map V.int)[j]? = some (.int ns[j]) := by rw [List.getElem?_map, List.getElem?_eq_getElem hjl] <;> rfl
      refine ⟨_, rfl, _, rfl, s, _, _, .int ns[j], rfl, rfl, SqL.of hs, by rw [hj']; exact atI_nat hjv, ?_⟩
      generalize ns[j] = c
      refine ⟨_, rfl, b, _, 1, .int i, rfl, rfl, SqL.of hb, rfl, _, _, rfl, rfl, _, rfl, b, _, 1, 1, rfl, rfl, hb, rfl, ?_⟩
      have hb1 : upd H b (.lst ([V.ref s, .int i].set 1 (.int (i + 1)))) b = some (.lst [.ref s, .int (i + 1)]) := upd_same
      have hs1 : upd H b (.lst ([V.ref s, .int i].set 1 (.int (i + 1)))) s = some (.lst (ns.map V.int)) := by
        rw [upd_ne nsb]
        exact hs
      have x1 : ExtS b s H (upd H b (.lst ([V.ref s, .int i].set 1 (.int (i + 1))))) := fun x o h1 _ h => by
        rw [upd_ne h1]
        exact h
      generalize upd H b (.lst ([V.ref s, .int i].set 1 (.int (i + 1)))) = H1 at hb1 hs1 x1 ⊢
      refine ⟨_, rfl, _, _, rfl, rfl, ⟨by decide, by decide, by decide⟩, _, _, rfl, rfl, _, rfl, ?_⟩
      by_cases hc : c ≥ 10 ^ (18 : Int).toNat
      · rw [decide_eq_true hc]
        refine iteT ⟨_, rfl, _, rfl, _, _, rfl, rfl, ⟨by omega, by omega⟩, _, rfl, _, rfl, s, _, _, j, rfl, rfl, hs1, (by rw [hj']; exact Evl.ixN_nat (by rw [List.length_map]; exact hjl)), ?_⟩
        refine ⟨_, rfl, .inl ⟨_, rfl, _, rfl, _, _, rfl, rfl, (by show L ≠ 0; omega), ?_⟩⟩
        refine k _ _ (Int.fmod_nonneg_of_pos _ (by omega)) (Int.fmod_lt_of_pos _ (by omega)) ⟨ns.set j (c.fdiv L), i + 1, by rw [upd_ne nsb.symm]; exact hb1, ?_, by rw [List.length_set]; exact n63, by omega, by omega⟩ fun x o h1 h2 h => ?_
        · rw [upd_same, List.map_set]
        · rw [upd_ne h2]
          exact x1 x o h1 h2 h
      · rw [decide_eq_false hc]
        refine iteF ?_
        refine ⟨_, rfl, _, _, rfl, rfl, .inr ⟨by decide, by decide⟩, _, rfl, b, _, 1, .int (i + 1), rfl, rfl, SqL.of hb1, rfl, _, _, rfl, rfl, .inr ⟨by decide, by decide⟩, _, _, rfl, rfl, _, _, rfl, rfl, .inl ⟨_, rfl, _, _, rfl, rfl, (by show (0 : Int) < 2147483647; decide), ?_⟩⟩
        refine ⟨_, rfl, _, _, rfl, rfl, .inr ⟨by decide, by decide⟩, _, rfl, b, _, 1, .int (i + 1), rfl, rfl, SqL.of hb1, rfl, _, _, rfl, rfl, .inr ⟨by decide, by decide⟩, _, _, rfl, rfl, .inl ⟨_, rfl, _, _, rfl, rfl, (by show (0 : Int) < 2147483629; decide), _, rfl, _, _, rfl, rfl, (by show L ≠ 0; omega), ?_⟩⟩
        exact k _ _ (Int.fmod_nonneg_of_pos _ (by omega)) (Int.fmod_lt_of_pos _ (by omega)) ⟨ns, i + 1, hb1, hs1, n63, by omega, by omega⟩ x1
/-- what a box holds -/
def Flt (v : V) : Prop := (∃ n, v = .int n) ∨ v = .bl true ∨ v = .str "1" ∨ v = .non
def spLBox : Sp := fun vs H Q _ => ∃ (b s : Addr) (N : Nat) (l m : Int), vs = [.ref b, .int l, .int m] ∧ StAt H b s N ∧ N ≤ 900000 ∧ 1 ≤ l ∧ l ≤ 1000 ∧ l ≤ m ∧ m ≤ 1000 ∧
  ∀ q xs H', (H' q = some (.lst xs) ∨ H' q = some (.tup xs)) → (∀ x ∈ xs, Flt x) → xs.length ≤ 4 → q ≠ b → q ≠ s → H q = none → StAt H' b s (N + 7) → ExtS b s H H' → Q (.ref q) H'
theorem mem_set' {α : Type} {l : List α} {j : Nat} {a x : α} (h : x ∈ l.set j a) : x ∈ l ∨ x = a := List.mem_or_eq_of_mem_set h
theorem ok_lbox {f : Addr} {fd : FuncData} (F : Fun K "_law_box" "_law_box" s__law_box f fd) (T : Txt K mg A) (O__law_draw : Own P w K mg base CX0 "_law_draw" 1 pm__law_draw spDraw) : FnOk P w K mg base CX0 2 f fd pm__law_box spLBox := by
  refine F.ok sc__law_box (fun vs H Q E h => ?_) (fun cdv A' outer sh H vs Q E hr h => ?_)
  · obtain ⟨_, _, _, _, _, rfl, _⟩ := h
    rfl
  · obtain ⟨b, s, N, l, m, rfl, hst, hN, l1, l2, lm, m2, k⟩ := h
    refine ⟨_, pss_cons (ps_set (i := 3) sc__law_box.nd rfl (Or.inl rfl) (pe_own O__law_draw (hr.mono (by decide)) pass0 (pa_cons (pv 0) (pa_cons (pe_op op_add (pv 1) (pe_int)) pa_nil))))
      (pss_cons (ps_set (i := 4) sc__law_box.nd rfl (Or.inl rfl) (pe_op op_add (pv 3) (pe_own O__law_draw (hr.mono (by decide)) pass0 (pa_cons (pv 0) (pa_cons (pe_callB (call_max2 rfl) (by rfl) T.n_max (by decide +kernel) (pa_cons (pe_int) (pa_cons (pe_op op_add (pe_op op_sub (pv 2) (pv 3)) (pe_int)) pa_nil))) pa_nil)))))
      (pss_cons (ps_set (i := 5) sc__law_box.nd rfl (Or.inl rfl) (pe_op op_add (pe_int) (pe_own O__law_draw (hr.mono (by decide)) pass0 (pa_cons (pv 0) (pa_cons (pe_int) pa_nil)))))
      (pss_cons (ps_set (i := 6) sc__law_box.nd rfl (Or.inl rfl) (pe_lst (pa_cons (pv 3) (pa_cons (pv 4) (pa_cons (pv 5) (pa_cons (pe_op op_add (pv 5) (pe_op op_mul (pe_own O__law_draw (hr.mono (by decide)) pass0 (pa_cons (pv 0) (pa_cons (pe_int) pa_nil))) (pe_int))) pa_nil))))))
      (pss_cons (ps_set (i := 7) sc__law_box.nd rfl (Or.inl rfl) (pe_own O__law_draw (hr.mono (by decide)) pass0 (pa_cons (pv 0) (pa_cons (pe_int) pa_nil))))
      (pss_cons (ps_if (pt_cmpR op_lt (pv 7) (pe_int) (nomark _)) (pss_one (ps_ret (pe_callTy call_tuple_of (by rfl) T.n_tuple (by decide +kernel) (pa_cons (pv 6) pa_nil)))) (pss_nil))
      (Evl.pss_cut (ps_if (pt_cmpR op_eq (pv 7) (pe_int) (nomark _)) (pss_one (ps_asg (pe_ix ix_tup (pe_tup (pa_cons (pe_un un_neg (pe_int)) (pa_cons (pe_int) (pa_cons (pe_bl) (pa_cons (pe_str) (pa_cons (pe_non) pa_nil)))))) (pe_own O__law_draw (hr.mono (by decide)) pass0 (pa_cons (pv 0) (pa_cons (pe_int) pa_nil))) (fun _ _ => rfl)) (pg_sub (pv 6) (pe_own O__law_draw (hr.mono (by decide)) pass0 (pa_cons (pv 0) (pa_cons (pe_int) pa_nil))) set_list))) (pss_nil))
      (pss_cons (ps_if (pt_cmpR op_eq (pv 7) (pe_int) (nomark _)) (pss_one (ps_ret (pv 6))) (pss_nil))
      (pss_cons (ps_if (pt_cmpR op_eq (pv 7) (pe_int) (nomark _)) (pss_one (ps_ret (pe_callTy call_tuple_of (by rfl) T.n_tuple (by decide +kernel) (pa_cons (pe_slice sl_list (pv 6) (po_some (pe_int)) po_none) pa_nil)))) (pss_nil))
      (Evl.pss_cut (ps_if (pt_cmpR op_eq (pv 7) (pe_int) (nomark _)) (pss_one (ps_asg (pe_op op_add (pv 2) (pe_int)) (pg_sub (pv 6) (pe_int) set_list))) (pss_nil))
      (pss_one (ps_ret (pe_callTy call_tuple_of (by rfl) T.n_tuple (by decide +kernel) (pa_cons (pv 6) pa_nil))))))))))))), ?_⟩
    refine ⟨_, rfl, _, rfl, _, _, rfl, rfl, b, s, N, l + 1, rfl, hst, by omega, by omega, by omega, fun near H1 n0 nl st1 x1 => ?_⟩
    refine ⟨_, rfl, _, rfl, _, rfl, _, rfl, _, _, rfl, rfl, _, _, rfl, rfl, _, _, rfl, b, s, N + 1, _, rfl, st1, by omega, by split <;> omega, by split <;> omega, fun d2 H2 d20 _ st2 x2 => ⟨_, _, rfl, rfl, ?_⟩⟩
    refine ⟨_, rfl, b, s, N + 2, 9, rfl, st2, by omega, by omega, by omega, fun d3 H3 d30 d39 st3 x3 => ⟨_, _, rfl, rfl, ?_⟩⟩
    refine ⟨_, rfl, _, rfl, _, rfl, _, rfl, _, rfl, b, s, N + 3, 3, rfl, st3, by omega, by omega, by omega, fun d4 H4 d40 d43 st4 x4 => ⟨_, _, rfl, rfl, .inr ⟨by decide, by decide⟩, _, _, rfl, rfl, by show 4 ≤ sizeLine; decide, fun q hq => ?_⟩⟩
    obtain ⟨nqb, nqs⟩ := st4.new hq
    have eq := Ext.upd (o := .lst [.int near, .int (near + d2), .int (1 + d3), .int (1 + d3 + d4 * 7)]) hq
    have st4' := st4.ext eq
    have x4' := ((x1.trans x2).trans x3).trans (x4.trans (Ext.s eq))
    have hq4 : upd H4 q (.lst [.int near, .int (near + d2), .int (1 + d3), .int (1 + d3 + d4 * 7)]) q = some (.lst [.int near, .int (near + d2), .int (1 + d3), .int (1 + d3 + d4 * 7)]) := upd_same
    have hqn : H q = none := by
      cases e : H q with
      | none => rfl
      | some o =>
        have z := ((x1.trans x2).trans (x3.trans x4)) q o nqb nqs e
        rw [hq] at z
        cases z
    generalize upd H4 q (.lst [.int near, .int (near + d2), .int (1 + d3), .int (1 + d3 + d4 * 7)]) = H4' at st4' x4' hq4 ⊢
    refine ⟨_, rfl, b, s, N + 4, 12, rfl, st4', by omega, by omega, by omega, fun wy H5 _ _ st5 x5 => ?_⟩
    have hq5 := x5 q _ nqb nqs hq4
    have x05 := x4'.trans x5
    have f4 : ∀ x ∈ [V.int near, .int (near + d2), .int (1 + d3), .int (1 + d3 + d4 * 7)], Flt x := fun x hx => by
      simp only [List.mem_cons, List.not_mem_nil, or_false] at hx
      rcases hx with rfl | rfl | rfl | rfl <;> exact .inl ⟨_, rfl⟩
    -- a tuple of what stands at q
    have tupq : ∀ (H' : Hp) xs, H' q = some (.lst xs) → (∀ x ∈ xs, Flt x) → xs.length ≤ 4 → StAt H' b s (N + 7) → ExtS b s H H' → ∀ t, H' t = none → Q (.ref t) (upd H' t (.tup xs)) := fun H' xs _ hf hlen st x t ht => by
      obtain ⟨ntb, nts⟩ := st.new ht
      exact k t xs _ (.inr upd_same) hf hlen ntb nts (x.none ntb nts ht) (st.ext (Ext.upd ht)) (x.trans (Ext.s (Ext.upd ht)))
    refine ⟨_, rfl, _, _, rfl, rfl, _, rfl, ?_⟩
    by_cases w4 : wy < 4
    · rw [decide_eq_true w4]
      exact iteT ⟨_, rfl, q, _, rfl, .inl ⟨SqL.of hq5, tupq H5 _ hq5 f4 (Nat.le_refl 4) (st5.le (by omega)) x05⟩⟩
    · rw [decide_eq_false w4]
      refine iteF ?_
      have start : ∀ σ : L2.St, σ = [some (.ref b), some (.int l), some (.int m), some (.int near), some (.int (near + d2)), some (.int (1 + d3)), some (.ref q), some (.int wy)] → σ.length = 8 := fun σ h => by rw [h]; rfl
      refine ⟨fun σ H' => σ = [some (.ref b), some (.int l), some (.int m), some (.int near), some (.int (near + d2)), some (.int (1 + d3)), some (.ref q), some (.int wy)] ∧ ∃ xs, H' q = some (.lst xs) ∧ (∀ x ∈ xs, Flt x) ∧ xs.length = 4 ∧ StAt H' b s (N + 7) ∧ ExtS b s H H', ?_, ?_⟩
      · refine ⟨_, rfl, rfl, _, rfl, ?_⟩
        rw [dvi]
        by_cases w5 : wy = 4
        · rw [decide_eq_true w5]
          refine iteT ⟨_, rfl, by show 5 ≤ sizeLine; decide, fun t ht => ?_⟩
          have et := Ext.upd (o := .tup [.int (-1), .int 10001, .bl true, .str "1", .non]) ht
          obtain ⟨ntb, nts⟩ := st5.new ht
          refine ⟨_, rfl, b, s, N + 5, 5, rfl, st5.ext et, by omega, by omega, by omega, fun d6 H6 d60 d65 st6 x6 => ?_⟩
          have ht6 := x6 t _ ntb nts upd_same
          have hq6 := x6 q _ nqb nqs (et _ _ hq5)
          have fin : ∀ v, Flt v → gSub (tVar 6) (tCall spDraw [] E0 (tCons (tVar 0) (tCons (tC (.int 4)) tNil))) rSetL v [some (.ref b), some (.int l), some (.int m), some (.int near), some (.int (near + d2)), some (.int (1 + d3)), some (.ref q), some (.int wy)] H6
              (fun σ H' => σ = [some (.ref b), some (.int l), some (.int m), some (.int near), some (.int (near + d2)), some (.int (1 + d3)), some (.ref q), some (.int wy)] ∧ ∃ xs, H' q = some (.lst xs) ∧ (∀ x ∈ xs, Flt x) ∧ xs.length = 4 ∧ StAt H' b s (N + 7) ∧ ExtS b s H H') := fun v hv => by
            refine ⟨_, rfl, _, rfl, b, s, N + 6, 4, rfl, st6, by omega, by omega, by omega, fun d7 H7 d70 d74 st7 x7 => ?_⟩
            obtain ⟨j, rfl⟩ : ∃ j : Nat, d7 = (j : Int) := ⟨d7.toNat, (Int.toNat_of_nonneg d70).symm⟩
            have hq7 := x7 q _ nqb nqs hq6
            refine ⟨q, _, _, j, rfl, rfl, hq7, Evl.ixN_nat (by show j < 4; omega), rfl, _, upd_same, fun x hx => ?_, by rw [List.length_set]; rfl, st7.upd nqb nqs, ((x05.trans (Ext.s et)).trans (x6.trans x7)).mut hqn⟩
            rcases mem_set' hx with h | rfl
            · exact f4 x h
            · exact hv
          have hd : d6 = 0 ∨ d6 = 1 ∨ d6 = 2 ∨ d6 = 3 ∨ d6 = 4 := by omega
          rcases hd with rfl | rfl | rfl | rfl | rfl
          · exact ⟨t, _, 0, _, rfl, rfl, SqT.of ht6, rfl, fin _ (.inl ⟨_, rfl⟩)⟩
          · exact ⟨t, _, 1, _, rfl, rfl, SqT.of ht6, rfl, fin _ (.inl ⟨_, rfl⟩)⟩
          · exact ⟨t, _, 2, _, rfl, rfl, SqT.of ht6, rfl, fin _ (.inr (.inl rfl))⟩
          · exact ⟨t, _, 3, _, rfl, rfl, SqT.of ht6, rfl, fin _ (.inr (.inr (.inl rfl)))⟩
          · exact ⟨t, _, 4, _, rfl, rfl, SqT.of ht6, rfl, fin _ (.inr (.inr (.inr rfl)))⟩
        · rw [decide_eq_false w5]
          exact iteF ⟨rfl, _, hq5, f4, rfl, st5.le (by omega), x05⟩
      · rintro σ H6 ⟨rfl, xs, hq6, hf, hlen, st6, x6⟩
        refine ⟨_, rfl, rfl, _, rfl, ?_⟩
        rw [dvi]
        by_cases w5 : wy = 5
        · rw [decide_eq_true w5]
          exact iteT ⟨_, rfl, k q xs H6 (.inl hq6) hf (by omega) nqb nqs hqn st6 x6⟩
        · rw [decide_eq_false w5]
          refine iteF ⟨_, rfl, rfl, _, rfl, ?_⟩
          rw [dvi]
          by_cases w6 : wy = 6
          · rw [decide_eq_true w6]
            refine iteT ⟨_, rfl, 1, rfl, q, xs, rfl, SqL.of hq6, fun p hp => ⟨p, _, rfl, .inl ⟨SqL.of upd_same, fun t ht => ?_⟩⟩⟩
            obtain ⟨npb, nps⟩ := st6.new hp
            have ep := Ext.upd (o := .lst (cutV xs (some 1) Option.none)) hp
            obtain ⟨ntb, nts⟩ := (st6.ext ep).new ht
            refine k t _ _ (.inr upd_same) (fun x hx => hf x ?_) (Nat.le_trans (cutV_length _ _ _) (by omega)) ntb nts ((x6.trans (Ext.s ep)).none ntb nts ht) ((st6.ext ep).ext (Ext.upd ht)) ((x6.trans (Ext.s ep)).trans (Ext.s (Ext.upd ht)))
            unfold cutV at hx
            exact List.mem_of_mem_drop (List.mem_of_mem_take hx)
          · rw [decide_eq_false w6]
            refine iteF ?_
            refine ⟨fun σ H' => σ = [some (.ref b), some (.int l), some (.int m), some (.int near), some (.int (near + d2)), some (.int (1 + d3)), some (.ref q), some (.int wy)] ∧ ∃ xs, H' q = some (.lst xs) ∧ (∀ x ∈ xs, Flt x) ∧ xs.length = 4 ∧ StAt H' b s (N + 7) ∧ ExtS b s H H', ?_, ?_⟩
            · refine ⟨_, rfl, rfl, _, rfl, ?_⟩
              rw [dvi]
              by_cases w7 : wy = 7
              · rw [decide_eq_true w7]
                refine iteT ⟨_, rfl, _, _, rfl, rfl, _, rfl, q, xs, 1, 1, rfl, rfl, hq6, Evl.ixN_nat (j := 1) (by omega), rfl, _, upd_same, fun x hx => ?_, by rw [List.length_set]; exact hlen, st6.upd nqb nqs, x6.mut hqn⟩
                rcases mem_set' hx with h | rfl
                · exact hf x h
                · exact .inl ⟨_, rfl⟩
              · rw [decide_eq_false w7]
                exact iteF ⟨rfl, xs, hq6, hf, hlen, st6, x6⟩
            · rintro σ H7 ⟨rfl, ys, hq7, hf7, hlen7, st7, x7⟩
              exact ⟨_, rfl, q, _, rfl, .inl ⟨SqL.of hq7, tupq H7 _ hq7 hf7 (by omega) st7 x7⟩⟩
end
end K15

set_option Elab.async false
set_option maxRecDepth 100000
set_option maxHeartbeats 4000000
namespace K15
open PySem PySem.Spec PyProof.Rows L2
theorem eqv_i (a b : Int) : PyData.eqv (.int a) (.int b) = (a == b) := by
  unfold PyData.eqv
  rfl
theorem eqv_b (bo : Option Int) : PyData.eqv (bD bo) (bD bo) = true := by
  cases bo with
  | none => rfl
  | some n =>
    show PyData.eqv (.int n) (.int n) = true
    rw [eqv_i]
    exact beq_self_eq_true n
def d4 (bo : Option Int) (l m : Int) (bs : List Bx) : PyData := .tuple [bD bo, .int l, .int m, .tuple (bs.map bxD)]
theorem d4_same (bo : Option Int) (l m : Int) (bs : List Bx) : PyData.eqv (d4 bo l m bs) (d4 bo l m bs) = true := by
  show (PyData.eqv (bD bo) (bD bo) && (PyData.eqv (.int l) (.int l) && (PyData.eqv (.int m) (.int m) && (PyData.eqvAll (bs.map bxD) (bs.map bxD) && true)))) = true
  rw [eqv_b, eqv_i, eqv_i, eqv_bxs, decide_eq_true rfl, beq_self_eq_true, beq_self_eq_true]
  rfl
theorem shp4 (bo : Option Int) (l m : Int) (bs : List Bx) : SeqAt.shaped (d4 bo l m bs) = true := by
  obtain ⟨h1, h2⟩ := lay_bxs bs
  have c : (bD bo).canLay0 = true ∧ (bD bo).depth = 0 := by cases bo <;> exact ⟨rfl, rfl⟩
  show (((bD bo).canLay0 && (true && (true && (PyData.canLayAll0 (bs.map bxD) && true)))) && decide (max (bD bo).depth (max 0 (max 0 (max (PyData.depthAll (bs.map bxD) + 1) 0))) + 1 ≤ 64)) = true
  rw [h1, c.1, c.2, decide_eq_true (by omega)]
  rfl
section
variable {P : Program} {w : World} {K : PySem.W.Frag} {mg : Str → Option Value} {base : Heap} {A : Ad}
/-- a way is made of good parts -/
theorem mk_way {H1 : Hp} {vx : V} {bo : Option Int} {l m : Int} {bs : List Bx} {x : PyData} {R : VK} {E : XK} {x0 dx : Addr} (hx0 : H1 x0 = none) (hdx : H1 dx = none) (hne : dx ≠ x0) (hb : bOk bo) (hg : Good l m bs) (hx : Dp K H1 vx x) (hxx : x = .list (bs.map bxD) ∨ x = .tuple (bs.map bxD))
    (q : ∀ H', Ext H1 H' → MyWay K A H' x0 bo l m bs → R .non H') : spWayInit K A (.ref x0 :: [bV bo, .int l, .int m, vx]) (upd (upd H1 dx (.own x0)) x0 (.ins A.Way dx [])) R E := by
  have e0 := (Ext.upd (o := .own x0) hdx).upd' (o := .ins A.Way dx []) (by rw [upd_ne hne.symm]; exact hx0)
  have due := due_ok (x := x) hb hg.d hxx hg.n hg.b
  refine ⟨x0, dx, bV bo, .int l, .int m, vx, bD bo, .int l, .int m, x, rfl, upd_same, bV_dp bo, .int _, .int _, dp_ext e0 _ _ hx, fun s hs => (by rw [due] at hs; cases hs), fun i hi => (by rw [due] at hi; cases hi), fun _ ds H' hds hw hB => ?_⟩
  have hd : ds = bs.map bxD := by rcases hxx with rfl | rfl <;> cases hds <;> rfl
  subst hd
  obtain ⟨T2, ys, h1, h2, h3⟩ := hw
  exact q H' (fun a o h => hB a o (ne_of_none h hx0) (e0 a o h)) ⟨dx, T2, ys, h1, h2, h3⟩
theorem nfD {C : Addr} {d : PyData} : PySem.W.notFirst K C (.type (tnD d)) = true := by
  show (Value.type (tnD d) == Value.ref C || PySem.W.subIn K (.type (tnD d)) (.ref C) == some false) = true
  rw [sub_ty_ref kd_find]
  exact Bool.or_eq_true_iff.mpr (.inr (by decide))
theorem shp_bxl (bs : List Bx) : SeqAt.shaped (.list (bs.map bxD)) = true := by
  obtain ⟨h1, h2⟩ := lay_bxs bs
  show (PyData.canLayAll0 (bs.map bxD) && decide (PyData.depthAll (bs.map bxD) + 1 ≤ 64)) = true
  rw [h1, decide_eq_true (by omega)]
  rfl
theorem eqv_nilB (bs : List Bx) : PyData.eqv (.list (bs.map bxD)) (.list []) = decide (bs = []) := by
  show PyData.eqvAll (bs.map bxD) [] = _
  cases bs with
  | nil => rfl
  | cons b bs => exact (decide_eq_false (fun h => nomatch h)).symm
theorem flpb : ∀ v ∈ [V.str "part", V.str "begin"], Fl v := fun v hv => by
  simp only [List.mem_cons, List.not_mem_nil, or_false] at hv
  rcases hv with rfl | rfl <;> (show PySem.PyData.canLay0 (.str _) = true; decide +kernel)
theorem flbg (b : Option Int) : ∀ v ∈ [V.str "begun", bV b], Fl v := fun v hv => by
  simp only [List.mem_cons, List.not_mem_nil, or_false] at hv
  rcases hv with rfl | rfl
  · show PySem.PyData.canLay0 (.str "begun") = true
    decide +kernel
  · cases b <;> exact trivial
theorem bD_inj {b c : Option Int} (h : bD b = bD c) : b = c := by
  cases b <;> cases c <;> first | rfl | (injection h with h; rw [h]) | cases h
def spAsked (K : PySem.W.Frag) (A : Ad) : Sp := fun vs H Q _ => ∃ (p B : Addr) (bo : Option Int) (l m : Int) (bs : List Bx) (xs : List V), vs = [.ref p, bV bo, .int l, .int m, .ref B] ∧ MyWay K A H p bo l m bs ∧ bOk bo ∧ Good l m bs ∧ SqL K H B xs ∧ DpAll K H xs (bs.map bxD) ∧ ∀ H', Ext H H' → Q (.bl true) H'
theorem ok_asked {f : Addr} {fd : FuncData} (F : Fun K "_law_asked" "_law_asked" s__law_asked f fd) (T : Txt K mg A) (O_Way : OwnC P w K mg base (L2.CX P w) "Way" A.Way 5 pm_Way_init (spWayInit K A)) (O_Way3 : OwnCD P w K mg base (L2.CX P w) "Way" A.Way 5 pm_Way_init (spWayInit K A) [.ref A.T0])
    (O_Way_window : OwnM P w K mg base CX0 A.Way "window" 1 pm_Way_window (spWindow K A)) (O_Way_eq : OwnM P w K mg base CX0 A.Way "__eq__" 1 pm_Way_eq (spWayEq K A)) (O__law_again : Own P w K mg base CX0 "_law_again" 9 pm__law_again (spAgain K A)) : FnOk P w K mg base CX0 11 f fd pm__law_asked (spAsked K A) := by
  refine F.ok sc__law_asked (fun vs H Q E h => ?_) (fun cdv A' outer sh H vs Q E hr h => ?_)
  · obtain ⟨_, _, _, _, _, _, _, rfl, _⟩ := h
    rfl
  · obtain ⟨p, B, bo, l, m, bs, xs, rfl, hw, hbo, hg, hB, hxs, k⟩ := h
    have hEq : ∀ s1 H1 sc ce fp, OpR ((cxOf CX0 P w K mg base nm__law_asked "_law_asked" (defScope s__law_asked) f cdv A' outer sh H E).nox.blk s1 H1 sc ce fp) (compareOp .Eq) (rEqO K A.Way (spWayEq K A)) := fun s1 H1 sc ce fp =>
      eqO (X := (cxOf CX0 P w K mg base nm__law_asked "_law_asked" (defScope s__law_asked) f cdv A' outer sh H E).nox.blk s1 H1 sc ce fp) O_Way_eq T.Way.neM (hr.mono (by decide)) pass0
    refine ⟨_, pss_cons (ps_if (pt_cmpR (op_neD hr.units) (pe_tup (pa_cons (pe_fld (pv 0) rfl) (pa_cons (pe_fld (pv 0) rfl) (pa_cons (pe_fld (pv 0) rfl) (pa_cons (pe_fld (pv 0) rfl) pa_nil))))) (pe_tup (pa_cons (pv 1) (pa_cons (pv 2) (pa_cons (pv 3) (pa_cons (pe_callTy call_tuple_of (by rfl) T.n_tuple (by decide +kernel) (pa_cons (pv 4) pa_nil)) pa_nil))))) (nomark _)) (pss_one (ps_ret (pe_bl))) (pss_nil))
      (pss_cons (ps_set (i := 5) sc__law_asked.nd rfl (Or.inl rfl) (pe_non))
      (Evl.pss_cut (ps_if (pt_cmpR op_notN (pv 1) (pe_non) (nomark _)) (pss_one (ps_set (i := 5) sc__law_asked.nd rfl (Or.inl rfl) (pe_tup (pa_cons (pe_op op_add (pv 1) (pe_op op_mul (pe_int) (pv 2))) (pa_cons (pe_op op_add (pv 1) (pe_op op_mul (pe_int) (pv 3))) pa_nil))))) (pss_nil))
      (pss_cons (ps_if (PW.pt (pw_or (pt_cmpR (op_neD hr.units) (pe_ownM0 O_Way_window (pv 0) T.Way.cl (hr.mono (by decide)) pass0) (pv 5) (nomark _)) (pw_or (pt_cmpR (neO O_Way_eq T.Way.neM (hr.mono (by decide)) pass0) (pv 0) (pe_new O_Way (hr.mono (by decide)) passL (pa_cons (pv 1) (pa_cons (pv 2) (pa_cons (pv 3) (pa_cons (pe_callTy call_tuple_of (by rfl) T.n_tuple (by decide +kernel) (pa_cons (pv 4) pa_nil)) pa_nil))))) (nomark _)) (pw_or1 (pt_cmpR (eqO O_Way_eq T.Way.neM (hr.mono (by decide)) pass0) (pv 0) (pe_tup (pa_cons (pv 1) (pa_cons (pv 2) (pa_cons (pv 3) pa_nil)))) (nomark _)))))) (pss_one (ps_ret (pe_bl))) (pss_nil))
      (pss_cons (ps_set (i := 6) sc__law_asked.nd rfl (Or.inl rfl) (pe_lst (pa_cons (pe_new O_Way (hr.mono (by decide)) passL (pa_cons (pe_non) (pa_cons (pv 2) (pa_cons (pv 3) (pa_cons (pv 4) pa_nil))))) (pa_cons (pe_new O_Way (hr.mono (by decide)) passL (pa_cons (pe_int) (pa_cons (pv 2) (pa_cons (pv 3) (pa_cons (pv 4) pa_nil))))) (pa_cons (pe_new O_Way (hr.mono (by decide)) passL (pa_cons (pv 1) (pa_cons (pv 2) (pa_cons (pe_int) (pa_cons (pv 4) pa_nil))))) pa_nil)))))
      (pss_cons (ps_set (i := 7) sc__law_asked.nd rfl (Or.inl rfl) (pe_lst (pa_cons (pe_cmpR op_isN (pv 1) (pe_non) (nomark _)) (pa_cons (pe_cmpR op_eq (pv 1) (pe_int) (nomark _)) (pa_cons (pe_cmpR op_eq (pv 3) (pe_int) (nomark _)) pa_nil)))))
      (pss_cons (ps_if (PW.pt (pw_or (pt_cmpR (op_neD hr.units) (pe_lc (own := [("_law_other", 8)]) (g := gName 8) (by rfl) sc__law_asked.nd (pi_list (pv 6)) (blkOk_by (own := [("_law_other", 8)]) (N := nm__law_asked) (sc := defScope s__law_asked) (by decide +kernel)) (fun _ _ _ _ _ => pg_name (i := 8) sc__law_asked.nd rfl (Or.inl rfl)) (fun s1 H1 C1 cl fp => pts_nil) (fun s1 H1 C1 cl fp => pe_cmpR (hEq _ _ _ _ _) (pv 0) (pv 8) (nomark _))) (pv 7) (nomark _)) (pw_or1 (pt_cmpR op_ne (pe_cmpR (eqO O_Way_eq T.Way.neM (hr.mono (by decide)) pass0) (pv 0) (pe_newD O_Way3 (hr.mono (by decide)) passL (pa_cons (pv 1) (pa_cons (pv 2) (pa_cons (pv 3) pa_nil)))) (nomark _)) (pe_cmpR (op_eqD hr.units) (pv 4) (pe_lst (pa_nil)) (nomark _)) (nomark _))))) (pss_one (ps_ret (pe_bl))) (pss_nil))
      (pss_cons (ps_for PassesOwn.never rfl (pi_tup (pe_tup (pa_cons (pe_int) (pa_cons (pe_int) (pa_cons (pe_non) pa_nil))))) (pg_name (i := 8) sc__law_asked.nd rfl (Or.inl rfl)) (pss_one (ps_if (pt_cmpR (op_neD hr.units) (pe_own O__law_again (hr.mono (by decide)) pass0 (pa_cons (pv 0) (pa_cons (pv 8) pa_nil))) (pe_tup (pa_cons (pe_str) (pa_cons (pv 8) pa_nil))) (nomark _)) (pss_one (ps_ret (pe_bl))) (pss_nil))))
      (pss_cons (ps_if (PW.pt (pw_or (pt_cmpR (op_neD hr.units) (pe_own O__law_again (hr.mono (by decide)) pass0 (pa_cons (pv 0) (pa_cons (pe_un un_neg (pe_int)) pa_nil))) (pe_tup (pa_cons (pe_str) (pa_cons (pe_str) pa_nil))) (nomark _)) (pw_or1 (pt_cmpR (op_neD hr.units) (pe_own O__law_again (hr.mono (by decide)) pass0 (pa_cons (pv 0) (pa_cons (pe_int) pa_nil))) (pe_tup (pa_cons (pe_str) (pa_cons (pe_str) pa_nil))) (nomark _))))) (pss_one (ps_ret (pe_bl))) (pss_nil))
      (pss_one (ps_ret (pe_cmpR (op_eqD hr.units) (pe_own O__law_again (hr.mono (by decide)) pass0 (pa_cons (pv 0) (pa_cons (pe_bl) pa_nil))) (pe_tup (pa_cons (pe_str) (pa_cons (pe_str) pa_nil))) (nomark _)))))))))))), ?_⟩
    obtain ⟨dx, T', ys, hp, hT, hys⟩ := id hw
    -- the attributes
    refine ⟨_, rfl, p, A.Way, dx, _, _, rfl, hp, T.Way.cl, T.w_begin, rfl, _, rfl, p, A.Way, dx, _, _, rfl, hp, T.Way.cl, T.w_least, rfl, _, rfl, p, A.Way, dx, _, _, rfl, hp, T.Way.cl, T.w_most, rfl, _, rfl, p, A.Way, dx, _, _, rfl, hp, T.Way.cl, T.w_boxes, rfl, by show 4 ≤ sizeLine; decide, fun t1 ht1 => ?_⟩
    have e1 := Ext.upd (o := .tup [bV bo, .int l, .int m, .ref T']) ht1
    refine ⟨_, rfl, _, rfl, _, rfl, _, rfl, B, xs, rfl, .inl ⟨hB.ext e1, fun t0 ht0 => ⟨by show 4 ≤ sizeLine; decide, fun t2 ht2 => ?_⟩⟩⟩
    have e2 := Ext.upd (o := .tup xs) ht0
    have e3 := Ext.upd (o := .tup [bV bo, .int l, .int m, .ref t0]) ht2
    have e23 := e2.trans e3
    have e13 := e1.trans e23
    have dA : Dp K (upd (upd (upd H t1 (.tup [bV bo, .int l, .int m, .ref T'])) t0 (.tup xs)) t2 (.tup [bV bo, .int l, .int m, .ref t0])) (.ref t1) (d4 bo l m bs) :=
      .tup ((SqT.of upd_same).ext e23) (.cons (bV_dp _) (.cons (.int _) (.cons (.int _) (.cons (.tup (hT.ext e13) (dps_ext e13 _ _ hys)) .nil))))
    have dB : Dp K (upd (upd (upd H t1 (.tup [bV bo, .int l, .int m, .ref T'])) t0 (.tup xs)) t2 (.tup [bV bo, .int l, .int m, .ref t0])) (.ref t2) (d4 bo l m bs) :=
      .tup (SqT.of upd_same) (.cons (bV_dp _) (.cons (.int _) (.cons (.int _) (.cons (.tup ((SqT.of upd_same).ext e3) (dps_ext e13 _ _ hxs)) .nil))))
    refine ⟨_, _, dA, dB, shp4 _ _ _ _, shp4 _ _ _ _, _, rfl, ?_⟩
    rw [d4_same]
    refine iteF ?_
    generalize upd (upd (upd H t1 (.tup [bV bo, .int l, .int m, .ref T'])) t0 (.tup xs)) t2 (.tup [bV bo, .int l, .int m, .ref t0]) = H3 at e13 ⊢
    -- the window that is due
    refine ⟨fun σ H' => Ext H H' ∧ ∃ v d, σ = [some (.ref p), some (bV bo), some (.int l), some (.int m), some (.ref B), some v, Option.none, Option.none, Option.none] ∧ Dp K H' v d ∧ ((bo = none ∧ d = .none) ∨ ∃ n, bo = some n ∧ d = .tuple [.int (n + 2 * l), .int (n + 2 * m)]), ?_, ?_⟩
    · refine ⟨_, rfl, rfl, _, rfl, ?_⟩
      cases bo with
      | none => exact iteF ⟨e13, .non, .none, rfl, .non, .inl ⟨rfl, rfl⟩⟩
      | some n =>
        refine iteT ⟨_, rfl, _, rfl, _, _, rfl, rfl, .inl ⟨by decide, by decide⟩, _, _, rfl, rfl, _, rfl, _, rfl, _, _, rfl, rfl, .inl ⟨by decide, by decide⟩, _, _, rfl, rfl, by show 2 ≤ sizeLine; decide, fun t ht => ?_⟩
        exact ⟨e13.trans (Ext.upd ht), .ref t, _, rfl, .tup (SqT.of upd_same) (.cons (.int _) (.cons (.int _) .nil)), .inr ⟨n, rfl, rfl⟩⟩
    · rintro σ H4 ⟨e4, wv, wd, rfl, hwv, hwd⟩
      have win : ∀ {σ : L2.St} {q : VK}, (∀ v d H', Ext H4 H' → Dp K H' v d → PyData.eqv d wd = true → SeqAt.shaped d = true → q v H') → tNil σ H4 (fun us H2 => spWindow K A (.ref p :: (us ++ [])) H2 q E0) := fun {σ q} hq => by
        refine ⟨p, bo, l, m, bs, rfl, hw.ext e4, fun hn => ?_, fun n hn t H' e ht => ?_⟩
        · refine hq .non .none H4 Ext.rfl' .non ?_ rfl
          rcases hwd with ⟨_, rfl⟩ | ⟨n, h, _⟩
          · rfl
          · rw [hn] at h; cases h
        · refine hq (.ref t) _ H' e (.tup (SqT.of ht) (.cons (.int _) (.cons (.int _) .nil))) ?_ (shp_tup (vs := [.int (n + 2 * l), .int (n + 2 * m)]) (fl_ints (ns := [n + 2 * l, n + 2 * m])))
          rcases hwd with ⟨h, _⟩ | ⟨n', h, rfl⟩
          · rw [hn] at h; cases h
          · rw [hn] at h
            cases h
            show (PyData.eqv (.int _) (.int _) && (PyData.eqv (.int _) (.int _) && true)) = true
            rw [eqv_i, eqv_i, beq_self_eq_true, beq_self_eq_true]
            rfl
      have wsh : SeqAt.shaped wd = true := by
        rcases hwd with ⟨_, rfl⟩ | ⟨n, _, rfl⟩
        · rfl
        · exact shp_tup (vs := [.int (n + 2 * l), .int (n + 2 * m)]) (fl_ints (ns := [n + 2 * l, n + 2 * m]))
      obtain ⟨dx4, T4, ys4, hp4, hT4, hys4⟩ := hw.ext e4
      refine ⟨_, rfl, p, dx4, _, rfl, hp4, rfl, ?_⟩
      refine win fun v d H5 e5 hd he hs => ?_
      refine ⟨_, rfl, _, _, hd, dp_ext e5 _ _ hwv, hs, wsh, _, rfl, ?_⟩
      rw [he]
      refine iteF ?_
      have hw5 := (hw.ext e4).ext e5
      have e05 := e4.trans e5
      -- the same way, made again
      refine ⟨_, rfl, _, rfl, _, rfl, _, rfl, _, rfl, B, xs, rfl, .inl ⟨hB.ext e05, fun t6 ht6 => ?_⟩⟩
      have e6 := Ext.upd (o := .tup xs) ht6
      refine fun p7 dn hx0 hdx0 hne0 => mk_way hx0 hdx0 hne0 hbo hg (.tup (SqT.of upd_same) (dps_ext (e05.trans e6) _ _ hxs)) (.inr rfl) fun H7 e7 hw7 => ⟨rfl, ?_⟩
      have e67 := e6.trans e7
      have e07 := e05.trans e67
      obtain ⟨dx7, T7, ys7, hp7, hT7, hys7⟩ := id (hw.ext e07)
      obtain ⟨dy7, U7, zs7, hq7, _⟩ := id hw7
      refine ⟨p, dx7, _, .ref A.Way, rfl, hp7, T.Way.tyOf hq7, T.Way.nfMe, p, bo, l, m, bs, _, rfl, hw.ext e07, .inl ⟨p7, bo, l, m, bs, rfl, hw7, _, rfl, _, rfl, ?_⟩⟩
      rw [decide_eq_true ⟨rfl, rfl, rfl, rfl⟩]
      refine iteF ?_
      refine ⟨_, rfl, _, rfl, _, rfl, _, rfl, by show 3 ≤ sizeLine; decide, fun t8 ht8 => ?_⟩
      have e8 := Ext.upd (o := .tup [bV bo, .int l, .int m]) ht8
      have e08 := e07.trans e8
      have d8 : Dp K (upd H7 t8 (.tup [bV bo, .int l, .int m])) (.ref t8) (.tuple [bD bo, .int l, .int m]) := .tup (SqT.of upd_same) (.cons (bV_dp _) (.cons (.int _) (.cons (.int _) .nil)))
      obtain ⟨dx8, T8, ys8, hp8, _⟩ := id (hw.ext e08)
      refine ⟨p, dx8, _, .type (tnD (.tuple [bD bo, .int l, .int m])), rfl, hp8, dp_ty d8, nfD, p, bo, l, m, bs, _, rfl, hw.ext e08, .inr ⟨_, d8, _, rfl, _, rfl, ?_⟩⟩
      refine iteF ?_
      generalize upd H7 t8 (.tup [bV bo, .int l, .int m]) = H8 at e08 ⊢
      -- three others
      have g50 : Good l 50 bs := ⟨⟨hg.d.1, Int.le_trans hg.d.2.1 hg.d.2.2, Int.le_refl _⟩, hg.n, fun q hq => by
        obtain ⟨a1, a2, a3, a4, a5, a6, a7⟩ := hg.b q hq
        exact ⟨a1, a2, Int.le_trans a3 hg.d.2.2, a4, a5, a6, a7⟩⟩
      refine ⟨_, rfl, _, rfl, _, rfl, ?_⟩
      refine fun w1 dn hx0 hdx0 hne0 => mk_way hx0 hdx0 hne0 (bo := none) (fun n h => nomatch h) hg (.lst (hB.ext e08) (dps_ext e08 _ _ hxs)) (.inl rfl) fun H9 e9 hw1 => ⟨rfl, ?_⟩
      have e09 := e08.trans e9
      refine ⟨_, rfl, _, rfl, _, rfl, ?_⟩
      refine fun w2 dn hx0 hdx0 hne0 => mk_way hx0 hdx0 hne0 (bo := some 1) (fun n h => by cases h; decide) hg (.lst (hB.ext e09) (dps_ext e09 _ _ hxs)) (.inl rfl) fun H10 e10 hw2 => ⟨rfl, ?_⟩
      have e010 := e09.trans e10
      refine ⟨_, rfl, _, rfl, _, rfl, ?_⟩
      refine fun w3 dn hx0 hdx0 hne0 => mk_way hx0 hdx0 hne0 hbo g50 (.lst (hB.ext e010) (dps_ext e010 _ _ hxs)) (.inl rfl) fun H11 e11 hw3 => ⟨rfl, ?_⟩
      have e011 := e010.trans e11
      refine ⟨by show 3 ≤ sizeLine; decide, fun o1 ho1 => ?_⟩
      have e12 := Ext.upd (o := .lst [.ref w1, .ref w2, .ref w3]) ho1
      have ho12 : upd H11 o1 (.lst [.ref w1, .ref w2, .ref w3]) o1 = some (.lst [.ref w1, .ref w2, .ref w3]) := upd_same
      have hw1' := ((hw1.ext e10).ext e11).ext e12
      have hw2' := (hw2.ext e11).ext e12
      have hw3' := hw3.ext e12
      have e012 := e011.trans e12
      generalize upd H11 o1 (.lst [.ref w1, .ref w2, .ref w3]) = H12 at ho12 hw1' hw2' hw3' e012 ⊢
      refine ⟨_, rfl, rfl, _, rfl, bV_sc bo (some 1), _, rfl, rfl, by show 3 ≤ sizeLine; decide, fun o2 ho2 => ?_⟩
      have s1 : decide (bV bo = .non) = decide (bo = none) := bV_eq bo none
      have s2 : decide (bV bo = .int 1) = decide (bo = some 1) := bV_eq bo (some 1)
      have s3 : decide (V.int m = .int 50) = decide (m = 50) := dvi
      rw [s1, s2, s3]
      have e13' := Ext.upd (o := .lst [.bl (decide (bo = none)), .bl (decide (bo = some 1)), .bl (decide (m = 50))]) ho2
      have ho13 : upd H12 o2 (.lst [.bl (decide (bo = none)), .bl (decide (bo = some 1)), .bl (decide (m = 50))]) o2 = some (.lst [.bl (decide (bo = none)), .bl (decide (bo = some 1)), .bl (decide (m = 50))]) := upd_same
      have ho1' := e13' _ _ ho12
      have hw1'' := hw1'.ext e13'
      have hw2'' := hw2'.ext e13'
      have hw3'' := hw3'.ext e13'
      have e013 := e012.trans e13'
      generalize upd H12 o2 (.lst [.bl (decide (bo = none)), .bl (decide (bo = some 1)), .bl (decide (m = 50))]) = H13 at ho13 ho1' hw1'' hw2'' hw3'' e013 ⊢
      refine ⟨_, rfl, o1, rfl, ⟨_, SqL.of ho1'⟩, fun D hD => ?_⟩
      have one : ∀ (q : Addr) (bo' : Option Int) (l' m' : Int) (bs' : List Bx) (H' : Hp) (acc : List V), MyWay K A H13 q bo' l' m' bs' → Ext H13 H' → H' D = some (.lst acc) → acc.length ≤ 3 → ∀ (R : Hp → Prop), R (upd H' D (.lst (acc ++ [.bl (decide (bo = bo' ∧ l = l' ∧ m = m' ∧ bs = bs'))]))) →
          tOp (rEqO K A.Way (spWayEq K A)) (tVar 0) (tVar 8) [some (.ref p), some (bV bo), some (.int l), some (.int m), some (.ref B), some wv, some (.ref o1), some (.ref o2), some (.ref q)] H' (fun y H4 => ∃ acc', H4 D = some (.lst acc') ∧ acc'.length < sizeLine ∧ R (upd H4 D (.lst (acc' ++ [y])))) := by
        intro q bo' l' m' bs' H' acc hq eH hDa hacc R hR
        obtain ⟨dxq, Tq, ysq, hpq, _⟩ := id (hw.ext (e013.trans eH))
        obtain ⟨dyq, Uq, zsq, hqq, _⟩ := id (hq.ext eH)
        exact ⟨_, rfl, _, rfl, p, dxq, _, .ref A.Way, rfl, hpq, T.Way.tyOf hqq, T.Way.nfMe, p, bo, l, m, bs, _, rfl, hw.ext (e013.trans eH), .inl ⟨q, bo', l', m', bs', rfl, hq.ext eH, _, rfl, acc, hDa, Nat.lt_of_le_of_lt hacc (by decide), hR⟩⟩
      have r1 : decide (bo = none ∧ l = l ∧ m = m ∧ bs = bs) = decide (bo = none) := by simp
      have r2 : decide (bo = some 1 ∧ l = l ∧ m = m ∧ bs = bs) = decide (bo = some 1) := by simp
      have r3 : decide (bo = bo ∧ l = l ∧ m = 50 ∧ bs = bs) = decide (m = 50) := by simp
      refine lc_list (xs := [.ref w1, .ref w2, .ref w3]) (fun i H' => Ext H13 H' ∧ H' D = some (.lst ([V.bl (decide (bo = none)), .bl (decide (bo = some 1)), .bl (decide (m = 50))].take i))) ⟨Ext.upd hD, upd_same⟩ (fun i H' _ pv => SqL.of (pv.1 _ _ ho1')) (fun i x H' hi pv => ?_) (fun H14 pv => ?_)
      · obtain ⟨eH, hDa⟩ := pv
        match i, hi, hDa with
        | 0, hi, hDa =>
          cases hi
          refine ⟨rfl, ?_⟩
          refine one w1 none l m bs H' _ hw1'' eH hDa (by show 0 ≤ 3; decide) (fun H'' => Ext H13 H'' ∧ H'' D = some (.lst ([V.bl (decide (bo = none)), .bl (decide (bo = some 1)), .bl (decide (m = 50))].take (0 + 1)))) ⟨ext_mut eH hD, ?_⟩
          rw [upd_same, r1]
          rfl
        | 1, hi, hDa =>
          cases hi
          refine ⟨rfl, ?_⟩
          refine one w2 (some 1) l m bs H' _ hw2'' eH hDa (by show 1 ≤ 3; decide) (fun H'' => Ext H13 H'' ∧ H'' D = some (.lst ([V.bl (decide (bo = none)), .bl (decide (bo = some 1)), .bl (decide (m = 50))].take (1 + 1)))) ⟨ext_mut eH hD, ?_⟩
          rw [upd_same, r2]
          rfl
        | 2, hi, hDa =>
          cases hi
          refine ⟨rfl, ?_⟩
          refine one w3 bo l 50 bs H' _ hw3'' eH hDa (by show 2 ≤ 3; decide) (fun H'' => Ext H13 H'' ∧ H'' D = some (.lst ([V.bl (decide (bo = none)), .bl (decide (bo = some 1)), .bl (decide (m = 50))].take (2 + 1)))) ⟨ext_mut eH hD, ?_⟩
          rw [upd_same, r3]
          rfl
        | n + 3, hi, _ => cases hi
      · obtain ⟨e14, hD14⟩ := pv
        have hD14 : H14 D = some (.lst [V.bl (decide (bo = none)), .bl (decide (bo = some 1)), .bl (decide (m = 50))]) := hD14
        have fb : ∀ v ∈ [V.bl (decide (bo = none)), .bl (decide (bo = some 1)), .bl (decide (m = 50))], Fl v := fun v hv => by
          simp only [List.mem_cons, List.not_mem_nil, or_false] at hv
          rcases hv with rfl | rfl | rfl <;> exact trivial
        have e014 := e013.trans e14
        refine ⟨_, rfl, _, _, .lst (SqL.of hD14) (dp_all fb), .lst (SqL.of (e14 _ _ ho13)) (dp_all fb), shp_lst fb, shp_lst fb, _, rfl, ?_⟩
        show if (!PyData.eqvAll ([V.bl (decide (bo = none)), .bl (decide (bo = some 1)), .bl (decide (m = 50))].map pd) ([V.bl (decide (bo = none)), .bl (decide (bo = some 1)), .bl (decide (m = 50))].map pd)) = true then _ else _
        rw [eqv_same fb]
        refine iteF ?_
        -- the way without boxes
        refine ⟨_, rfl, _, rfl, _, rfl, _, rfl, fun x1 dn hx0 hdx0 hne0 => mk_way (bs := []) hx0 hdx0 hne0 hbo ⟨hg.d, Nat.zero_le _, fun q h => nomatch h⟩ (.tup (T.t0 _) .nil) (.inr rfl) fun H15 e15 hx1 => ⟨rfl, ?_⟩⟩
        have e015 := e014.trans e15
        obtain ⟨dx15, T15, ys15, hp15, _⟩ := id (hw.ext e015)
        obtain ⟨dy15, U15, zs15, hq15, _⟩ := id hx1
        refine ⟨p, dx15, _, .ref A.Way, rfl, hp15, T.Way.tyOf hq15, T.Way.nfMe, p, bo, l, m, bs, _, rfl, hw.ext e015, .inl ⟨x1, bo, l, m, [], rfl, hx1, _, rfl, ?_⟩⟩
        refine ⟨_, rfl, Nat.zero_le _, fun o3 ho3 => ?_⟩
        have e16 := Ext.upd (o := .lst []) ho3
        have e016 := e015.trans e16
        refine ⟨_, _, .lst (hB.ext e016) (dps_ext e016 _ _ hxs), .lst (SqL.of upd_same) .nil, shp_bxl _, rfl, rfl, _, rfl, ?_⟩
        rw [eqv_nilB, show decide (bo = bo ∧ l = l ∧ m = m ∧ bs = []) = decide (bs = []) by simp, decide_eq_true rfl]
        refine iteF ?_
        -- begun again
        refine ⟨by show 3 ≤ sizeLine; decide, fun t17 ht17 => ⟨t17, rfl, ⟨_, SqT.of upd_same⟩, ?_⟩⟩
        have e17 := Ext.upd (o := .tup [.int 0, .int 1000, .non]) ht17
        have e017 := e016.trans e17
        have ht17' : upd (upd H15 o3 (.lst [])) t17 (.tup [.int 0, .int 1000, .non]) t17 = some (.tup [.int 0, .int 1000, .non]) := upd_same
        generalize upd (upd H15 o3 (.lst [])) t17 (.tup [.int 0, .int 1000, .non]) = H17 at e017 ht17' ⊢
        have vals : ∀ (i : Nat) (x : V), [V.int 0, .int 1000, .non][i]? = some x → ∃ b', x = bV b' ∧ bOk b' := fun i x h => by
          match i, h with
          | 0, h => cases h; exact ⟨some 0, rfl, fun n h => by cases h; decide⟩
          | 1, h => cases h; exact ⟨some 1000, rfl, fun n h => by cases h; decide⟩
          | 2, h => cases h; exact ⟨none, rfl, fun n h => nomatch h⟩
          | n + 3, h => cases h
        refine for_it (walk_tup (xs := [.int 0, .int 1000, .non])) (fun i σ' H' => Ext H17 H' ∧ ∃ o, σ' = [some (.ref p), some (bV bo), some (.int l), some (.int m), some (.ref B), some wv, some (.ref o1), some (.ref o2), o]) ⟨Ext.rfl', _, rfl⟩ (fun i σ' H' _ pv => SqT.of (pv.1 _ _ ht17')) (fun i x σ' H' H2 hi pv hy => ?_) (fun σ' H' pv => ?_)
        · obtain ⟨eH, o, rfl⟩ := pv
          obtain ⟨rfl, hx⟩ := hy
          obtain ⟨b', rfl, hb'⟩ := vals i x hx
          have e0H := e017.trans eH
          refine ⟨_, rfl, _, rfl, p, bV b', bD b', bo, l, m, bs, rfl, hw.ext e0H, hg, bV_dp b', fun hb => absurd (begin_ok hb') (by rw [hb]; decide), fun b'' hbb hok t H'' e ht => ?_⟩
          cases bD_inj hbb
          refine ⟨_, rfl, by show 2 ≤ sizeLine; decide, fun t2 ht2 => ?_⟩
          have e2 := Ext.upd (o := .tup [.str "begun", bV b']) ht2
          refine ⟨_, _, .tup (SqT.of (e2 _ _ ht)) (dp_all (flbg b')), .tup (SqT.of upd_same) (dp_all (flbg b')), shp_tup (flbg b'), shp_tup (flbg b'), _, rfl, ?_⟩
          show if (!PyData.eqvAll ([V.str "begun", bV b'].map pd) ([V.str "begun", bV b'].map pd)) = true then _ else _
          rw [eqv_same (flbg b')]
          exact iteF ⟨(eH.trans e).trans e2, _, rfl⟩
        · obtain ⟨eH, o, rfl⟩ := pv
          have e0H := e017.trans eH
          refine ⟨_, rfl, _, rfl, p, .int (-1), .int (-1), bo, l, m, bs, rfl, hw.ext e0H, hg, .int _, fun _ t H'' e ht => ?_, fun b'' hbb hok => ?_⟩
          · refine ⟨by show 2 ≤ sizeLine; decide, fun t2 ht2 => ?_⟩
            have e2 := Ext.upd (o := .tup [.str "part", .str "begin"]) ht2
            have e02 := (e0H.trans e).trans e2
            refine ⟨_, _, .tup (SqT.of (e2 _ _ ht)) (dp_all flpb), .tup (SqT.of upd_same) (dp_all flpb), shp_tup flpb, shp_tup flpb, _, rfl, ?_⟩
            show if (!PyData.eqvAll ([V.str "part", V.str "begin"].map pd) ([V.str "part", V.str "begin"].map pd)) = true then _ else _
            rw [eqv_same flpb]
            refine iteF ⟨_, rfl, p, .int 1001, .int 1001, bo, l, m, bs, rfl, hw.ext e02, hg, .int _, fun _ t3 H3' e3' ht3 => ?_, fun b'' hbb hok => ?_⟩
            · refine ⟨by show 2 ≤ sizeLine; decide, fun t4 ht4 => ?_⟩
              have e4' := Ext.upd (o := .tup [.str "part", .str "begin"]) ht4
              have e04 := (e02.trans e3').trans e4'
              refine ⟨_, _, .tup (SqT.of (e4' _ _ ht3)) (dp_all flpb), .tup (SqT.of upd_same) (dp_all flpb), shp_tup flpb, shp_tup flpb, _, rfl, ?_⟩
              show if (!PyData.eqvAll ([V.str "part", V.str "begin"].map pd) ([V.str "part", V.str "begin"].map pd)) = true then _ else _
              rw [eqv_same flpb]
              refine iteF ⟨_, rfl, p, .bl true, .bool true, bo, l, m, bs, rfl, hw.ext e04, hg, .bl _, fun _ t5 H5' e5' ht5 => ?_, fun b'' hbb hok => ?_⟩
              · refine ⟨by show 2 ≤ sizeLine; decide, fun t6 ht6 => ?_⟩
                have e6' := Ext.upd (o := .tup [.str "part", .str "begin"]) ht6
                refine ⟨_, _, .tup (SqT.of (e6' _ _ ht5)) (dp_all flpb), .tup (SqT.of upd_same) (dp_all flpb), shp_tup flpb, shp_tup flpb, ?_⟩
                show Q (.bl (PyData.eqvAll ([V.str "part", V.str "begin"].map pd) ([V.str "part", V.str "begin"].map pd))) _
                rw [eqv_same flpb]
                exact k _ ((e04.trans e5').trans e6')
              · cases b'' <;> cases hbb
            · cases b'' with
              | none => cases hbb
              | some n =>
                cases hbb
                exact absurd (hok _ rfl).2 (by decide)
          · cases b'' with
            | none => cases hbb
            | some n =>
              cases hbb
              exact absurd (hok _ rfl).1 (by decide)
end
end K15

set_option Elab.async false
set_option maxRecDepth 100000
set_option maxHeartbeats 4000000
namespace K15
open PySem PySem.Spec PyProof.Rows L2 L2H
section
variable {P : Program} {w : World} {K : PySem.W.Frag} {mg : Str → Option Value} {base : Heap} {A : Ad}
/-- what is handed in as boxes: no list at all, or a list that stands -/
def Xat (K : PySem.W.Frag) (H : Hp) (vx : V) (x : PyData) : Prop := ((∀ H, Dp K H vx x) ∧ isSeqD x = false) ∨ ∃ (D : Addr) (items : List V) (ds : List PyData), vx = .ref D ∧ x = .list ds ∧ H D = some (.lst items) ∧ DpAll K H items ds ∧ items.length ≤ 4 ∧ ∀ d ∈ ds, lenD d ≤ 4
theorem Xat.dp {H : Hp} {vx : V} {x : PyData} (h : Xat K H vx x) : Dp K H vx x := by
  rcases h with ⟨h, _⟩ | ⟨D, items, ds, rfl, rfl, h1, h2, _⟩
  · exact h H
  · exact .lst (SqL.of h1) h2
theorem Xat.tup {H : Hp} {vx : V} {x : PyData} (h : Xat K H vx x) : isTupD x = false := by
  rcases h with ⟨_, h⟩ | ⟨D, items, ds, _, rfl, _⟩
  · cases x <;> first | rfl | cases h
  · rfl
theorem Xat.sm {H : Hp} {vx : V} {x : PyData} (h : Xat K H vx x) : ∀ ds, itemsD x = some ds → ds.length ≤ 1000 ∧ ∀ d ∈ ds, lenD d ≤ 1000 := by
  rcases h with ⟨_, h⟩ | ⟨D, items, ds, _, rfl, _, h2, h3, h4⟩
  · intro ds hd
    cases x <;> first | (cases hd; done) | (cases h; done)
  · intro ds' hd
    cases hd
    exact ⟨by rw [← dps_len h2]; omega, fun d hd => Nat.le_trans (h4 d hd) (by decide)⟩
def Keeps (K : PySem.W.Frag) (b s : Addr) (H : Hp) (vb : V) (bd : PyData) (vx : V) (x : PyData) : Prop := ∀ H2, ExtS b s H H2 → Dp K H2 vb bd ∧ Xat K H2 vx x
theorem Keeps.to {b s : Addr} {H H' : Hp} {vb vx : V} {bd x : PyData} (h : Keeps K b s H vb bd vx x) (e : ExtS b s H H') : Keeps K b s H' vb bd vx x := fun H2 e2 => h H2 (e.trans e2)
theorem bDp {H : Hp} (n : Int) : Dp K H (.int n) (.int n) := .int n
/-- data without a list in it: what becomes of a list doesn't touch it -/
theorem sqT_mutL {H H' : Hp} {D a : Addr} {ys xs : List V} (hD : H D = some (.lst ys)) (e : ∀ x o, x ≠ D → H x = some o → H' x = some o) (h : SqT K H a xs) : SqT K H' a xs := by
  rcases h with (h | ⟨o, h⟩) | h
  · exact .inl (.inl (e a _ (fun z => by rw [z, hD] at h; cases h) h))
  · exact .inl (.inr ⟨o, e a _ (fun z => by rw [z, hD] at h; cases h) h⟩)
  · exact .inr h
theorem ints_all {H H' : Hp} : ∀ {ns : List Int} {vs : List V}, DpAll K H vs (ns.map PyData.int) → DpAll K H' vs (ns.map PyData.int)
  | [], _, h => by cases h; exact .nil
  | n :: ns, _, h => by
    cases h with
    | cons h1 h2 =>
      cases h1
      exact .cons (.int _) (ints_all h2)
theorem bxs_mut {H H' : Hp} {D : Addr} {ys : List V} (hD : H D = some (.lst ys)) (e : ∀ x o, x ≠ D → H x = some o → H' x = some o) : ∀ {bs : List Bx} {vs : List V}, DpAll K H vs (bs.map bxD) → DpAll K H' vs (bs.map bxD)
  | [], _, h => by cases h; exact .nil
  | q :: bs, _, h => by
    cases h with
    | cons h1 h2 =>
      refine .cons ?_ (bxs_mut hD e h2)
      cases h1 with
      | tup hs ha => exact .tup (sqT_mutL hD e hs) (ints_all (ns := [q.1, q.2.1, q.2.2.1, q.2.2.2]) ha)
theorem way_mut {H H' : Hp} {D p : Addr} {ys : List V} {bo : Option Int} {l m : Int} {bs : List Bx} (hD : H D = some (.lst ys)) (e : ∀ x o, x ≠ D → H x = some o → H' x = some o) (h : MyWay K A H p bo l m bs) : MyWay K A H' p bo l m bs := by
  obtain ⟨dx, T, xs, h1, h2, h3⟩ := h
  exact ⟨dx, T, xs, e _ _ (fun z => by rw [z, hD] at h1; cases h1) h1, sqT_mutL hD e h2, bxs_mut hD e h3⟩
theorem dps_app {H : Hp} {v : V} {d : PyData} : ∀ {vs : List V} {ds : List PyData}, DpAll K H vs ds → Dp K H v d → DpAll K H (vs ++ [v]) (ds ++ [d])
  | [], _, h, hv => by cases h; exact .cons hv .nil
  | u :: vs, _, h, hv => by
    cases h with
    | cons h1 h2 => exact .cons h1 (dps_app h2 hv)
theorem due_lay {b l m x : PyData} {s : Str} (h : wayDue b l m x = some (.inl s)) : PySem.PyData.canLay0 (.str s) = true := by
  unfold wayDue at h
  split at h
  · cases h; decide +kernel
  · split at h
    · cases h; decide +kernel
    · split at h
      · cases h; decide +kernel
      · split at h
        · rw [Option.map_eq_some_iff] at h
          obtain ⟨_, _, h⟩ := h
          cases h
        · cases h
theorem fl2 {a b : Str} (ha : PySem.PyData.canLay0 (.str a) = true) (hb : PySem.PyData.canLay0 (.str b) = true) : ∀ v ∈ [V.str a, V.str b], Fl v := fun v hv => by
  simp only [List.mem_cons, List.not_mem_nil, or_false] at hv
  rcases hv with rfl | rfl
  · exact ha
  · exact hb
theorem flbi {i : Int} : ∀ v ∈ [V.str "box", V.int i], Fl v := fun v hv => by
  simp only [List.mem_cons, List.not_mem_nil, or_false] at hv
  rcases hv with rfl | rfl
  · show PySem.PyData.canLay0 (.str "box") = true
    decide +kernel
  · exact trivial
def tbLaw (A : Ad) (K : PySem.W.Frag) (W : WX) : TS := tAsg (tMakeS A.Way (spWayInit K A) [] (WE W) (tCons (tVar 2) (tCons (tVar 3) (tCons (tVar 4) (tCons (tVar 5) tNil))))) (gName 9)
def tsLaw (A : Ad) (a : Addr) (cls : Value) (d : Option Addr) : TS := tAsg (tCall (spName A a cls d) [] E0 (tCons (tVar 10) tNil)) (gName 8)
def spLaw (K : PySem.W.Frag) : Sp := fun vs H Q _ => ∃ (a : Addr) (ns : List Int), vs = [.ref a] ∧ SqL K H a (ns.map V.int) ∧ ns.length ≤ 63 ∧ ∀ H', Q (.bl true) H'
theorem ok_law {f : Addr} {fd : FuncData} (F : Fun K "law" "law" s_law f fd) (T : Txt K mg A) (O__law_draw : Own P w K mg base CX0 "_law_draw" 1 pm__law_draw spDraw) (O__law_box : Own P w K mg base CX0 "_law_box" 2 pm__law_box spLBox) (O__law_due : Own P w K mg base CX0 "_law_due" 3 pm__law_due (spDue K))
    (O_Way : OwnC P w K mg base (L2.CX P w) "Way" A.Way 5 pm_Way_init (spWayInit K A)) (O_name : OwnE P w K mg base A) (O__law_asked : Own P w K mg base CX0 "_law_asked" 11 pm__law_asked (spAsked K A)) : FnOk P w K mg base CX0 13 f fd pm_law (spLaw K) := by
  refine F.ok sc_law (fun vs H Q E h => ?_) (fun cdv A' outer sh H vs Q E hr h => ?_)
  · obtain ⟨_, _, rfl, _⟩ := h
    rfl
  · obtain ⟨a, ns, rfl, hS, hlen, k⟩ := h
    refine ⟨_, pss_cons (ps_set (i := 1) sc_law.nd rfl (Or.inr rfl) (pe_lst (pa_cons (pe_callTy call_list_of (by rfl) T.n_list (by decide +kernel) (pa_cons (pv 0) pa_nil)) (pa_cons (pe_int) pa_nil))))
      (pss_cons (ps_set (i := 2) sc_law.nd rfl (Or.inl rfl) (pe_ix ix_tup (pe_tup (pa_cons (pe_int) (pa_cons (pe_non) (pa_cons (pe_int) (pa_cons (pe_int) (pa_cons (pe_int) (pa_cons (pe_int) pa_nil))))))) (pe_own O__law_draw (hr.mono (by decide)) pass0 (pa_cons (pv 1) (pa_cons (pe_int) pa_nil))) (fun _ _ => rfl)))
      (Evl.pss_cut (ps_if (pt_cmpR op_eq (pe_own O__law_draw (hr.mono (by decide)) pass0 (pa_cons (pv 1) (pa_cons (pe_int) pa_nil))) (pe_int) (nomark _)) (pss_one (ps_set (i := 2) sc_law.nd rfl (Or.inl rfl) (pe_ix ix_tup (pe_tup (pa_cons (pe_un un_neg (pe_int)) (pa_cons (pe_int) (pa_cons (pe_bl) (pa_cons (pe_str) (pa_cons (pe_tup (pa_cons (pe_int) pa_nil)) pa_nil)))))) (pe_own O__law_draw (hr.mono (by decide)) pass0 (pa_cons (pv 1) (pa_cons (pe_int) pa_nil))) (fun _ _ => rfl)))) (pss_nil))
      (pss_cons (ps_set (i := 3) sc_law.nd rfl (Or.inr rfl) (pe_op op_add (pe_int) (pe_own O__law_draw (hr.mono (by decide)) pass0 (pa_cons (pv 1) (pa_cons (pe_int) pa_nil)))))
      (pss_cons (ps_set (i := 4) sc_law.nd rfl (Or.inr rfl) (pe_op op_add (pv 3) (pe_own O__law_draw (hr.mono (by decide)) pass0 (pa_cons (pv 1) (pa_cons (pe_int) pa_nil)))))
      (pss_cons (ps_setLc (i := 5) (own := [("_law_k", 12)]) (g := gName 12) (by rfl) sc_law.nd rfl rfl (sw_true rfl rfl rfl (by decide +kernel)) (pi_range1 rfl T.n_range (pa_cons (pe_own O__law_draw (hr.mono (by decide)) pass0 (pa_cons (pv 1) (pa_cons (pe_int) pa_nil))) pa_nil)) (blkOk_by (own := [("_law_k", 12)]) (N := nm_law) (sc := defScope s_law) (by decide +kernel)) (fun _ _ _ _ _ => pg_name (i := 12) sc_law.nd rfl (Or.inl rfl)) (fun s1 H1 C1 cl fp => pts_nil) (fun s1 H1 C1 cl fp => pe_own O__law_box (hr.mono (by decide)) pass0 (pa_cons (pv 1) (pa_cons (pv 3) (pa_cons (pv 4) pa_nil)))))
      (pss_cons (ps_set (i := 6) sc_law.nd rfl (Or.inl rfl) (pe_own O__law_draw (hr.mono (by decide)) pass0 (pa_cons (pv 1) (pa_cons (pe_int) pa_nil))))
      (Evl.pss_cut (ps_if (pt_cmpR op_eq (pv 6) (pe_int) (nomark _)) (pss_one (ps_set (i := 5) sc_law.nd rfl (Or.inl rfl) (pe_ix ix_tup (pe_tup (pa_cons (pe_non) (pa_cons (pe_int) (pa_cons (pe_str) pa_nil)))) (pe_own O__law_draw (hr.mono (by decide)) pass0 (pa_cons (pv 1) (pa_cons (pe_int) pa_nil))) (fun _ _ => rfl)))) (pss_nil))
      (Evl.pss_cut (ps_if (pt_cmpR op_eq (pv 6) (pe_int) (nomark _)) (pss_one (ps_set (i := 4) sc_law.nd rfl (Or.inr rfl) (pe_op op_sub (pv 3) (pe_int)))) (pss_nil))
      (Evl.pss_cut (ps_if (pt_cmpR op_eq (pv 6) (pe_int) (nomark _)) (pss_one (ps_set (i := 4) sc_law.nd rfl (Or.inr rfl) (pe_ix ix_tup (pe_tup (pa_cons (pe_int) (pa_cons (pe_non) (pa_cons (pe_bl) (pa_cons (pe_str) pa_nil))))) (pe_own O__law_draw (hr.mono (by decide)) pass0 (pa_cons (pv 1) (pa_cons (pe_int) pa_nil))) (fun _ _ => rfl)))) (pss_nil))
      (Evl.pss_cut (ps_if (pt_cmpR op_eq (pv 6) (pe_int) (nomark _)) (pss_one (ps_set (i := 3) sc_law.nd rfl (Or.inr rfl) (pe_ix ix_tup (pe_tup (pa_cons (pe_int) (pa_cons (pe_un un_neg (pe_int)) (pa_cons (pe_bl) (pa_cons (pe_non) pa_nil))))) (pe_own O__law_draw (hr.mono (by decide)) pass0 (pa_cons (pv 1) (pa_cons (pe_int) pa_nil))) (fun _ _ => rfl)))) (pss_nil))
      (pss_cons (ps_set (i := 7) sc_law.nd rfl (Or.inl rfl) (pe_own O__law_due (hr.mono (by decide)) pass0 (pa_cons (pv 2) (pa_cons (pv 3) (pa_cons (pv 4) (pa_cons (pv 5) pa_nil))))))
      (pss_cons (ps_set (i := 8) sc_law.nd rfl (Or.inl rfl) (pe_non))
      (pss_cons (ps_try_as (i := 10) (tb := tbLaw A K) (ts := tsLaw A) (Wout := fun _ _ _ _ => False) rfl rfl sc_law.nd rfl rfl ⟨rfl, by decide, Or.inl T.g_WholeError⟩ takes0
        (fun W pn xe tk _ => pss_one (ps_set (i := 9) sc_law.nd rfl (Or.inl rfl) (by exact (pe_newS O_Way (hr.mono (by decide)) tk (pa_cons (pv 2) (pa_cons (pv 3) (pa_cons (pv 4) (pa_cons (pv 5) pa_nil))))))))
        (fun a oe cls d pn hz hf => pss_one (ps_set (i := 8) sc_law.nd rfl (Or.inl rfl) (by exact (pe_name O_name hz hf (roomH_of (hr.mono (by decide))) (pv 10))))))
      (pss_cons (ps_if (PW.pt (pw_or (pt_cmpR op_notN (pv 8) (pe_non) (nomark _)) (pw_or1 (pt_cmpR op_notN (pv 7) (pe_non) (nomark _))))) (pss_one (ps_ret (pe_cmpR (op_eqD hr.units) (pv 8) (pv 7) (nomark _)))) (pss_nil))
      (pss_cons (ps_set (i := 11) sc_law.nd rfl (Or.inl rfl) (pe_callTy call_list_of (by rfl) T.n_list (by decide +kernel) (pa_cons (pv 5) pa_nil)))
      (pss_cons (ps_expr (pe_bm PySem.F.plainAttrs_list PySem.F.slot_list_append PySem.F.type_list_append mt_append (pv 5) (pa_cons (pe_tup (pa_cons (pe_int) (pa_cons (pe_int) (pa_cons (pe_int) (pa_cons (pe_int) pa_nil))))) pa_nil)))
      (pss_one (ps_ret (pe_own O__law_asked (hr.mono (by decide)) pass0 (pa_cons (pv 9) (pa_cons (pv 2) (pa_cons (pv 3) (pa_cons (pv 4) (pa_cons (pv 11) pa_nil)))))))))))))))))))))))), ?_⟩
    refine ⟨_, rfl, a, _, rfl, .inl hS, fun s hs => ⟨by show 2 ≤ sizeLine; decide, fun b hb => ?_⟩⟩
    have hsb : s ≠ b := ne_of_none upd_same hb
    have st0 : StAt (upd (upd H s (.lst (ns.map V.int))) b (.lst [.ref s, .int 0])) b s 0 := ⟨ns, 0, upd_same, by rw [upd_ne hsb]; exact upd_same, hlen, Int.le_refl _, Int.le_refl _⟩
    generalize upd (upd H s (.lst (ns.map V.int))) b (.lst [.ref s, .int 0]) = H0 at st0 ⊢
    -- the begin
    refine ⟨by show 6 ≤ sizeLine; decide, fun t ht => ⟨_, rfl, b, s, 0, 6, rfl, st0.ext (Ext.upd ht), by omega, by omega, by omega, fun d H1 d0 d6 st1 x1 => ?_⟩⟩
    have ht1 := x1 t _ (st0.new ht).1 (st0.new ht).2 upd_same
    obtain ⟨bo, hbo⟩ : ∃ bo, atI [V.int 0, .non, .int 1, .int 7, .int 1000, .int 999] d = some (bV bo) := by
      have hd : d = 0 ∨ d = 1 ∨ d = 2 ∨ d = 3 ∨ d = 4 ∨ d = 5 := by omega
      rcases hd with rfl | rfl | rfl | rfl | rfl | rfl
      · exact ⟨some 0, rfl⟩
      · exact ⟨none, rfl⟩
      · exact ⟨some 1, rfl⟩
      · exact ⟨some 7, rfl⟩
      · exact ⟨some 1000, rfl⟩
      · exact ⟨some 999, rfl⟩
    refine ⟨t, _, d, bV bo, rfl, rfl, SqT.of ht1, hbo, ?_⟩
    refine ⟨fun σ H' => ∃ vb bd, σ = [some (.ref a), some (.ref b), some vb, Option.none, Option.none, Option.none, Option.none, Option.none, Option.none, Option.none, Option.none, Option.none, Option.none] ∧ StAt H' b s 3 ∧ ∀ H2, ExtS b s H' H2 → Dp K H2 vb bd, ?_, ?_⟩
    · refine ⟨_, rfl, b, s, 1, 6, rfl, st1, by omega, by omega, by omega, fun d2 H2 _ _ st2 x2 => ⟨rfl, _, rfl, ?_⟩⟩
      rw [dvi]
      by_cases h5 : d2 = 5
      · rw [decide_eq_true h5]
        refine iteT ⟨_, rfl, by show 1 ≤ sizeLine; decide, fun t1 ht1 => ⟨by show 5 ≤ sizeLine; decide, fun t2 ht2 => ?_⟩⟩
        have e1 := Ext.upd (o := .tup [.int 0]) ht1
        have e2 := Ext.upd (o := .tup [.int (-1), .int 1001, .bl true, .str "0", .ref t1]) ht2
        have n1 := st2.new ht1
        have n2 := (st2.ext e1).new ht2
        refine ⟨_, rfl, b, s, 2, 5, rfl, (st2.ext e1).ext e2, by omega, by omega, by omega, fun d3 H3 d30 d35 st3 x3 => ?_⟩
        have h2 := x3 t2 _ n2.1 n2.2 upd_same
        have h1 := x3 t1 _ n1.1 n1.2 (e2 _ _ upd_same)
        have hd : d3 = 0 ∨ d3 = 1 ∨ d3 = 2 ∨ d3 = 3 ∨ d3 = 4 := by omega
        rcases hd with rfl | rfl | rfl | rfl | rfl
        · exact ⟨t2, _, 0, _, rfl, rfl, SqT.of h2, rfl, _, .int (-1), rfl, st3, fun _ _ => .int _⟩
        · exact ⟨t2, _, 1, _, rfl, rfl, SqT.of h2, rfl, _, .int 1001, rfl, st3, fun _ _ => .int _⟩
        · exact ⟨t2, _, 2, _, rfl, rfl, SqT.of h2, rfl, _, .bool true, rfl, st3, fun _ _ => .bl _⟩
        · exact ⟨t2, _, 3, _, rfl, rfl, SqT.of h2, rfl, _, .str "0", rfl, st3, fun _ _ => .str _⟩
        · exact ⟨t2, _, 4, _, rfl, rfl, SqT.of h2, rfl, _, .tuple [.int 0], rfl, st3, fun H4 x4 => .tup (SqT.of (x4 t1 _ n1.1 n1.2 h1)) (.cons (.int _) .nil)⟩
      · rw [decide_eq_false h5]
        exact iteF ⟨bV bo, bD bo, rfl, st2.le (by omega), fun _ _ => bV_dp bo⟩
    · rintro σ H2 ⟨vb, bd, rfl, st2, hvb⟩
      refine ⟨_, rfl, b, s, 3, 6, rfl, st2, by omega, by omega, by omega, fun d3 H3 d30 d36 st3 x3 => ⟨_, _, rfl, rfl, ?_⟩⟩
      refine ⟨_, rfl, _, rfl, b, s, 4, 4, rfl, st3, by omega, by omega, by omega, fun d4 H4 d40 d44 st4 x4 => ⟨_, _, rfl, rfl, ?_⟩⟩
      have x24 := x3.trans x4
      refine ⟨_, rfl, b, s, 5, 5, rfl, st4, by omega, by omega, by omega, fun n H5 n0 n5 st5 x5 => ⟨n, rfl, by omega, by omega, fun D hD => ?_⟩⟩
      have nD := st5.new hD
      have x25 := x24.trans x5
      have lmw : 1 ≤ 1 + d3 ∧ 1 + d3 ≤ 1 + d3 + d4 := by omega
      refine lc_range (fun i H' => ∃ xs ds, H' D = some (.lst xs) ∧ xs.length = i ∧ (∀ d ∈ ds, lenD d ≤ 4) ∧ StAt H' b s (6 + 7 * i) ∧ ExtS b s H2 H' ∧ ∀ H2, (∀ x o, x ≠ b → x ≠ s → x ≠ D → H' x = some o → H2 x = some o) → DpAll K H2 xs ds)
        ⟨[], [], upd_same, rfl, (fun _ h => nomatch h), (st5.ext (Ext.upd hD)).le (by omega), x25.trans (Ext.s (Ext.upd hD)), fun _ _ => .nil⟩ (fun i H' hi pv => ?_) (fun H' pv => ?_)
      · obtain ⟨xs, ds, hl, hlen', hsm, st, xx, hdp⟩ := pv
        refine ⟨rfl, _, rfl, _, rfl, _, rfl, b, s, _, _, _, rfl, st, by omega, by omega, by omega, by omega, by omega, fun q ys H6 hq hf h4 nqb nqs hqn st6 x6 => ⟨xs, x6 D _ nD.1 nD.2 hl, Nat.lt_trans (show xs.length < 6 by omega) (by decide), xs ++ [.ref q], ?_⟩⟩
        have nqD : q ≠ D := fun z => by rw [z, hl] at hqn; cases hqn
        have dn : ∀ (zs : List V), zs.length ≤ 4 → ∀ d, (d = PyData.list (zs.map pd) ∨ d = .tuple (zs.map pd)) → lenD d ≤ 4 := fun zs hz d hd => by
          rcases hd with rfl | rfl
          · show (zs.map pd).length ≤ 4
            rw [List.length_map]
            exact hz
          · show (zs.map pd).length ≤ 4
            rw [List.length_map]
            exact hz
        obtain ⟨dq, hdq, hsm6, hdn⟩ : ∃ dq : PyData, (∀ H2 : Hp, (∀ o, H6 q = some o → H2 q = some o) → Dp K H2 (.ref q) dq) ∧ lenD dq ≤ 4 ∧ True := by
          have fl : ∀ z ∈ ys, Fl z := fun z hz => by
            rcases hf z hz with ⟨n, rfl⟩ | rfl | rfl | rfl
            · exact trivial
            · exact trivial
            · show PySem.PyData.canLay0 (.str "1") = true
              decide +kernel
            · exact trivial
          rcases hq with hq | hq
          · exact ⟨.list (ys.map pd), fun H2 e => .lst (SqL.of (e _ hq)) (dp_all fl), dn ys h4 _ (.inl rfl), trivial⟩
          · exact ⟨.tuple (ys.map pd), fun H2 e => .tup (SqT.of (e _ hq)) (dp_all fl), dn ys h4 _ (.inr rfl), trivial⟩
        refine ⟨ds ++ [dq], upd_same, by rw [List.length_append, hlen']; rfl, fun d hd => ?_, (st6.upd nD.1 nD.2).le (by omega), (xx.trans x6).mut ?_, fun H7 e7 => ?_⟩
        · rcases List.mem_append.mp hd with h | h
          · exact hsm d h
          · rw [List.mem_singleton.mp h]
            exact hsm6
        · exact x25.none nD.1 nD.2 hD
        · have e7' : ∀ x o, x ≠ b → x ≠ s → x ≠ D → H6 x = some o → H7 x = some o := fun x o h1 h2 h3 h => e7 x o h1 h2 h3 (by rw [upd_ne h3]; exact h)
          exact dps_app (hdp H7 fun x o h1 h2 h3 h => e7' x o h1 h2 h3 (x6 x o h1 h2 h)) (hdq H7 fun o h => e7' q o nqb nqs nqD h)
      · obtain ⟨xs, ds, hl, hlen', hsm, st, xx, hdp⟩ := pv
        have st := st.le (show 6 + 7 * n.toNat ≤ 34 by omega)
        have kp : Keeps K b s H' vb bd (.ref D) (.list ds) := fun H2 e => ⟨hvb H2 (xx.trans e), .inr ⟨D, xs, ds, rfl, rfl, e D _ nD.1 nD.2 hl, hdp H2 (fun x o h1 h2 _ h => e x o h1 h2 h), by omega, hsm⟩⟩
        refine ⟨_, rfl, b, s, 34, 12, rfl, st, by omega, by omega, by omega, fun wy H6 _ _ st6 x6 => ?_⟩
        have kp6 := kp.to x6
        -- other boxes
        refine ⟨fun σ H' => ∃ vx x, σ = [some (.ref a), some (.ref b), some vb, some (.int (1 + d3)), some (.int (1 + d3 + d4)), some vx, some (.int wy), Option.none, Option.none, Option.none, Option.none, Option.none, Option.none] ∧ StAt H' b s 36 ∧ Keeps K b s H' vb bd vx x, ?_, ?_⟩
        · refine ⟨_, rfl, rfl, _, rfl, ?_⟩
          rw [dvi]
          by_cases hw : wy = 11
          · rw [decide_eq_true hw]
            refine iteT ⟨by show 3 ≤ sizeLine; decide, fun t ht => ?_⟩
            have et := Ext.upd (o := .tup [.non, .int 0, .str "box"]) ht
            have nt := st6.new ht
            refine ⟨_, rfl, b, s, 35, 3, rfl, st6.ext et, by omega, by omega, by omega, fun d7 H7 d70 d73 st7 x7 => ?_⟩
            have ht7 := x7 t _ nt.1 nt.2 upd_same
            have k7 := kp6.to ((Ext.s et).trans x7)
            have fin : ∀ vx x, (∀ H, Dp K H vx x) → isSeqD x = false → Keeps K b s H7 vb bd vx x := fun vx x h1 h2 H2 e => ⟨(k7 H2 e).1, .inl ⟨h1, h2⟩⟩
            have hd : d7 = 0 ∨ d7 = 1 ∨ d7 = 2 := by omega
            rcases hd with rfl | rfl | rfl
            · exact ⟨t, _, 0, _, rfl, rfl, SqT.of ht7, rfl, _, .none, rfl, st7, fin _ _ (fun _ => .non) rfl⟩
            · exact ⟨t, _, 1, _, rfl, rfl, SqT.of ht7, rfl, _, .int 0, rfl, st7, fin _ _ (fun _ => .int _) rfl⟩
            · exact ⟨t, _, 2, _, rfl, rfl, SqT.of ht7, rfl, _, .str "box", rfl, st7, fin _ _ (fun _ => .str _) rfl⟩
          · rw [decide_eq_false hw]
            exact iteF ⟨_, _, rfl, st6.le (by omega), kp6⟩
        · rintro σ H7 ⟨vx, x, rfl, st7, kp7⟩
          -- other delays
          refine ⟨fun σ H' => ∃ mi', σ = [some (.ref a), some (.ref b), some vb, some (.int (1 + d3)), some (.int mi'), some vx, some (.int wy), Option.none, Option.none, Option.none, Option.none, Option.none, Option.none] ∧ H' = H7, ?_, ?_⟩
          · refine ⟨_, rfl, rfl, _, rfl, ?_⟩
            rw [dvi]
            by_cases hw : wy = 10
            · rw [decide_eq_true hw]
              exact iteT ⟨_, rfl, _, _, rfl, rfl, _, rfl, rfl⟩
            · rw [decide_eq_false hw]
              exact iteF ⟨_, rfl, rfl⟩
          · rintro σ H8 ⟨mi', rfl, rfl⟩
            refine ⟨fun σ H' => ∃ vm m, σ = [some (.ref a), some (.ref b), some vb, some (.int (1 + d3)), some vm, some vx, some (.int wy), Option.none, Option.none, Option.none, Option.none, Option.none, Option.none] ∧ (∀ H, Dp K H vm m) ∧ StAt H' b s 37 ∧ Keeps K b s H' vb bd vx x, ?_, ?_⟩
            · refine ⟨_, rfl, rfl, _, rfl, ?_⟩
              rw [dvi]
              by_cases hw : wy = 9
              · rw [decide_eq_true hw]
                refine iteT ⟨by show 4 ≤ sizeLine; decide, fun t ht => ?_⟩
                have et := Ext.upd (o := .tup [.int 51, .non, .bl true, .str "2"]) ht
                have nt := st7.new ht
                refine ⟨_, rfl, b, s, 36, 4, rfl, st7.ext et, by omega, by omega, by omega, fun d7 H9 d70 d73 st9 x9 => ?_⟩
                have ht9 := x9 t _ nt.1 nt.2 upd_same
                have k9 := kp7.to ((Ext.s et).trans x9)
                have hd : d7 = 0 ∨ d7 = 1 ∨ d7 = 2 ∨ d7 = 3 := by omega
                rcases hd with rfl | rfl | rfl | rfl
                · exact ⟨t, _, 0, _, rfl, rfl, SqT.of ht9, rfl, _, .int 51, rfl, (fun _ => .int _), st9, k9⟩
                · exact ⟨t, _, 1, _, rfl, rfl, SqT.of ht9, rfl, _, .none, rfl, (fun _ => .non), st9, k9⟩
                · exact ⟨t, _, 2, _, rfl, rfl, SqT.of ht9, rfl, _, .bool true, rfl, (fun _ => .bl _), st9, k9⟩
                · exact ⟨t, _, 3, _, rfl, rfl, SqT.of ht9, rfl, _, .str "2", rfl, (fun _ => .str _), st9, k9⟩
              · rw [decide_eq_false hw]
                exact iteF ⟨_, .int mi', rfl, (fun _ => .int _), st7.le (by omega), kp7⟩
            · rintro σ H9 ⟨vm, m, rfl, hm, st9, kp9⟩
              refine ⟨fun σ H' => ∃ vl l, σ = [some (.ref a), some (.ref b), some vb, some vl, some vm, some vx, some (.int wy), Option.none, Option.none, Option.none, Option.none, Option.none, Option.none] ∧ (∀ H, Dp K H vl l) ∧ Keeps K b s H' vb bd vx x, ?_, ?_⟩
              · refine ⟨_, rfl, rfl, _, rfl, ?_⟩
                rw [dvi]
                by_cases hw : wy = 8
                · rw [decide_eq_true hw]
                  refine iteT ⟨_, rfl, by show 4 ≤ sizeLine; decide, fun t ht => ?_⟩
                  have et := Ext.upd (o := .tup [.int 0, .int (-1), .bl true, .non]) ht
                  have nt := st9.new ht
                  refine ⟨_, rfl, b, s, 37, 4, rfl, st9.ext et, by omega, by omega, by omega, fun d7 H10 d70 d73 st10 x10 => ?_⟩
                  have ht10 := x10 t _ nt.1 nt.2 upd_same
                  have k10 := kp9.to ((Ext.s et).trans x10)
                  have hd : d7 = 0 ∨ d7 = 1 ∨ d7 = 2 ∨ d7 = 3 := by omega
                  rcases hd with rfl | rfl | rfl | rfl
                  · exact ⟨t, _, 0, _, rfl, rfl, SqT.of ht10, rfl, _, .int 0, rfl, (fun _ => .int _), k10⟩
                  · exact ⟨t, _, 1, _, rfl, rfl, SqT.of ht10, rfl, _, .int (-1), rfl, (fun _ => .int _), k10⟩
                  · exact ⟨t, _, 2, _, rfl, rfl, SqT.of ht10, rfl, _, .bool true, rfl, (fun _ => .bl _), k10⟩
                  · exact ⟨t, _, 3, _, rfl, rfl, SqT.of ht10, rfl, _, .none, rfl, (fun _ => .non), k10⟩
                · rw [decide_eq_false hw]
                  exact iteF ⟨_, _, rfl, (fun _ => .int _), kp9⟩
              · rintro σ H10 ⟨vl, l, rfl, hlv, kp10⟩
                obtain ⟨hb10, hx10⟩ := kp10 H10 ExtS.rfl'
                refine ⟨_, rfl, _, rfl, _, rfl, _, rfl, vb, vl, vm, vx, bd, l, m, x, rfl, hb10, hlv _, hm _, hx10.dp, hx10.tup, hx10.sm, fun hno H11 e11 => ?_, fun s' hs' t H11 e11 ht11 => ?_, fun i hi t H11 e11 ht11 => ?_⟩
                · -- made
                  obtain ⟨hb11, hx11⟩ := kp10 H11 (Ext.s e11)
                  refine ⟨_, rfl, _, rfl, _, rfl, _, rfl, fun x0 dx hx0 hdx0 hne0 => ?_⟩
                  have e0 := (Ext.upd (o := .own x0) hdx0).upd' (o := .ins A.Way dx []) (by rw [upd_ne hne0.symm]; exact hx0)
                  refine ⟨x0, dx, vb, vl, vm, vx, bd, l, m, x, rfl, upd_same, dp_ext e0 _ _ hb11, hlv _, hm _, dp_ext e0 _ _ hx11.dp, fun s' hs' => (by rw [hno] at hs'; cases hs'), fun i hi => (by rw [hno] at hi; cases hi), fun _ ds' H12 hds hw12 hB => ⟨rfl, ?_⟩⟩
                  have e12 : Ext H11 H12 := fun a o h => hB a o (ne_of_none h hx0) (e0 a o h)
                  obtain ⟨bo', li', mi', bs, rfl, hbo', rfl, rfl, hd', hit, hbl, hbs⟩ := due_none hno
                  rw [hit] at hds
                  cases hds
                  obtain rfl := bV_of hb11
                  obtain rfl := dp_int (hlv H11)
                  obtain rfl := dp_int (hm H11)
                  rcases hx11 with ⟨_, hxs⟩ | ⟨DD, items, ds'', rfl, rfl, hDD, hits, _, _⟩
                  · cases x <;> first | (cases hit; done) | (cases hxs; done)
                  · cases hit
                    have hway : MyWay K A H12 x0 bo' li' mi' bs := by
                      obtain ⟨T2, ys, h1, h2, h3⟩ := hw12
                      exact ⟨dx, T2, ys, h1, h2, h3⟩
                    have hDD12 := e12 _ _ hDD
                    refine ⟨_, rfl, rfl, _, rfl, iteF ⟨_, rfl, rfl, _, rfl, iteF ?_⟩⟩
                    refine ⟨_, rfl, DD, items, rfl, .inl (SqL.of hDD12), fun kp2 hkp2 => ?_⟩
                    have ek := Ext.upd (o := .lst items) hkp2
                    refine ⟨_, rfl, .inl ⟨rfl, _, SqL.of (ek _ _ hDD12)⟩, by show 4 ≤ sizeLine; decide, fun t4 ht4 => ?_⟩
                    have et := Ext.upd (o := .tup [.int 0, .int 0, .int 1, .int 1]) ht4
                    have hDD14 := et _ _ (ek _ _ hDD12)
                    have hlen4 : items.length ≤ 3 := by
                      rw [dps_len hits, List.length_map]
                      exact hbl
                    refine ⟨DD, items, .ref t4, rfl, rfl, hDD14, Nat.lt_of_le_of_lt hlen4 (by decide), ?_⟩
                    have mutD : ∀ y o, y ≠ DD → upd (upd H12 kp2 (.lst items)) t4 (.tup [.int 0, .int 0, .int 1, .int 1]) y = some o → upd (upd (upd H12 kp2 (.lst items)) t4 (.tup [.int 0, .int 0, .int 1, .int 1])) DD (.lst (items ++ [.ref t4])) y = some o := fun y o hy h => by
                      rw [upd_ne hy]
                      exact h
                    have nkD : kp2 ≠ DD := (ne_of_none hDD12 hkp2).symm
                    refine ⟨_, rfl, _, rfl, _, rfl, _, rfl, _, rfl, x0, kp2, bo', li', mi', bs, items, rfl, way_mut hDD14 mutD ((hway.ext ek).ext et), hbo', ⟨hd', hbl, hbs⟩, SqL.of (mutD _ _ nkD (et _ _ upd_same)), bxs_mut hDD14 mutD (dps_ext ((e12.trans ek).trans et) _ _ hits), fun H' _ => k H'⟩
                · -- a part is wrong
                  obtain ⟨hb11, hx11⟩ := kp10 H11 (Ext.s e11)
                  refine ⟨_, rfl, _, rfl, _, rfl, _, rfl, fun x0 dx hx0 hdx0 hne0 => ?_⟩
                  have e0 := (Ext.upd (o := .own x0) hdx0).upd' (o := .ins A.Way dx []) (by rw [upd_ne hne0.symm]; exact hx0)
                  refine ⟨x0, dx, vb, vl, vm, vx, bd, l, m, x, rfl, upd_same, dp_ext e0 _ _ hb11, hlv _, hm _, dp_ext e0 _ _ hx11.dp, fun s2 hs2 H12 e12 e he => ?_, fun i hi => (by rw [hs'] at hi; cases hi), fun hno => (by rw [hs'] at hno; cases hno)⟩
                  rw [hs'] at hs2
                  cases hs2
                  refine ⟨true, T.x_pw, fun _ ae hae => ?_, fun z => nomatch z⟩
                  refine ⟨_, rfl, rfl, e, rfl, .inl ⟨rfl, s', upd_same, fun t2 H13 e13 ht13 => ?_⟩⟩
                  refine ⟨_, rfl, rfl, _, rfl, iteT ?_⟩
                  have fl := fl2 (a := "part") (by decide +kernel) (due_lay hs')
                  have ht13' := (((e0.trans e12).trans (Ext.upd he)).trans e13) _ _ ht11
                  refine ⟨_, rfl, _, rfl, _, _, .tup (SqT.of ht13) (dp_all fl), .tup (SqT.of ht13') (dp_all fl), shp_tup fl, shp_tup fl, ?_⟩
                  show Q (.bl (PyData.eqvAll ([V.str "part", V.str s'].map pd) ([V.str "part", V.str s'].map pd))) _
                  rw [eqv_same fl]
                  exact k _
                · -- a box is wrong
                  obtain ⟨hb11, hx11⟩ := kp10 H11 (Ext.s e11)
                  refine ⟨_, rfl, _, rfl, _, rfl, _, rfl, fun x0 dx hx0 hdx0 hne0 => ?_⟩
                  have e0 := (Ext.upd (o := .own x0) hdx0).upd' (o := .ins A.Way dx []) (by rw [upd_ne hne0.symm]; exact hx0)
                  refine ⟨x0, dx, vb, vl, vm, vx, bd, l, m, x, rfl, upd_same, dp_ext e0 _ _ hb11, hlv _, hm _, dp_ext e0 _ _ hx11.dp, fun s2 hs2 => (by rw [hi] at hs2; cases hs2), fun i2 hi2 H12 e12 e he => ?_, fun hno => (by rw [hi] at hno; cases hno)⟩
                  rw [hi] at hi2
                  cases hi2
                  refine ⟨true, T.x_bw, fun _ ae hae => ?_, fun z => nomatch z⟩
                  refine ⟨_, rfl, rfl, e, rfl, .inr ⟨rfl, (i : Int), upd_same, fun t2 H13 e13 ht13 => ?_⟩⟩
                  refine ⟨_, rfl, rfl, _, rfl, iteT ?_⟩
                  have ht13' := (((e0.trans e12).trans (Ext.upd he)).trans e13) _ _ ht11
                  refine ⟨_, rfl, _, rfl, _, _, .tup (SqT.of ht13) (dp_all flbi), .tup (SqT.of ht13') (dp_all flbi), shp_tup flbi, shp_tup flbi, ?_⟩
                  show Q (.bl (PyData.eqvAll ([V.str "box", V.int (i : Int)].map pd) ([V.str "box", V.int (i : Int)].map pd))) _
                  rw [eqv_same flbi]
                  exact k _
end
end K15

set_option Elab.async false
set_option maxRecDepth 100000
set_option maxHeartbeats 4000000
namespace K15
open PySem PySem.Spec PyProof.Rows L2 L2H
section
variable {P : Program} {w : World} {K : PySem.W.Frag} {mg : Str → Option Value} {base : Heap} {A : Ad}
theorem kit_ref {B C : Addr} {b : Bool} (i : PySem.W.isClsIn K C = true) (t : PySem.W.typeIn K (.ref C) = some (.type "type")) (s : PySem.W.subIn K (.ref B) (.ref C) = some b) (ss : PySem.W.subIn K (.ref B) (.ref B) = some true) : PySem.W.kitOne K (.ref B) (.ref C) = some b := by
  by_cases h : B = C
  · subst h
    rw [ss] at s
    cases s
    exact if_pos (beq_self_eq_true _)
  · have e : ((PySem.W.clsIn K C).isSome && PySem.W.typeIn K (.ref C) == some (.type "type")) = true := by
      have h1 : (PySem.W.clsIn K C).isSome = true := i
      rw [h1, t]
      rfl
    show (if (Value.ref B == Value.ref C) = true then some true else if ((PySem.W.clsIn K C).isSome && PySem.W.typeIn K (.ref C) == some (.type "type")) = true then PySem.W.subIn K (.ref B) (.ref C) else none) = some b
    rw [if_pos e]
    have hne : ¬ ((Value.ref B == Value.ref C) = true) := fun z => by
      have z' := eq_of_beq z
      injection z' with z'
      exact h z'
    rw [if_neg hne]
    exact s
theorem exm_ref {B C : Addr} (b : PySem.W.subIn K (.ref C) (.type "BaseException") = some true) (i : PySem.W.isClsIn K C = true) (t : PySem.W.typeIn K (.ref C) = some (.type "type")) (s : PySem.W.subIn K (.ref B) (.ref C) = some true) : PySem.W.exmOne K (.ref B) (.ref C) = some true := by
  unfold PySem.W.exmOne PySem.W.kitCls
  have i' : (PySem.W.clsIn K C).isSome = true := i
  rw [b]
  dsimp only
  rw [i', t, s]
  rfl
theorem ve_one {W : Addr} : PySem.HandSPX.refsVE [.ref W, .type "ValueError", .type "Exception", .type "BaseException", .type "object"] = true := by
  show PySem.HandSPX.refsVE [.type "ValueError", .type "Exception", .type "BaseException", .type "object"] = true
  decide +kernel
theorem law_ok (T : Txt K mg A) (D_is_integer : DefAt K mg "is_integer" s_is_integer pm_is_integer) (D_is_between : DefAt K mg "is_between" s_is_between pm_is_between) (D_is_list : DefAt K mg "is_list" s_is_list pm_is_list) (D_is_list_of : DefAt K mg "is_list_of" s_is_list_of pm_is_list_of) (D_is_tuple_of : DefAt K mg "is_tuple_of" s_is_tuple_of pm_is_tuple_of) (D_is_begin : DefAt K mg "is_begin" s_is_begin pm_is_begin) (D_are_delays : DefAt K mg "are_delays" s_are_delays pm_are_delays) (D_is_box : DefAt K mg "is_box" s_is_box pm_is_box) (D__law_draw : DefAt K mg "_law_draw" s__law_draw pm__law_draw) (D__law_box : DefAt K mg "_law_box" s__law_box pm__law_box) (D__law_number : DefAt K mg "_law_number" s__law_number pm__law_number) (D__law_box_fits : DefAt K mg "_law_box_fits" s__law_box_fits pm__law_box_fits) (D__law_due : DefAt K mg "_law_due" s__law_due pm__law_due) (D__law_name : DefAt K mg "_law_name" s__law_name pm__law_name) (D__law_again : DefAt K mg "_law_again" s__law_again pm__law_again) (D__law_asked : DefAt K mg "_law_asked" s__law_asked pm__law_asked)
    (M_Way_window : MethAt K A.Way "window" "Way.window" s_Way_window pm_Way_window) (M_Way_begun_at : MethAt K A.Way "begun_at" "Way.begun_at" s_Way_begun_at pm_Way_begun_at) (M_Way_eq : MethAt K A.Way "__eq__" "Way.__eq__" s_Way_eq pm_Way_eq)
    {fi : Addr} {fdi : FuncData} (FI : FunD K "__init__" "Way.__init__" (defArgs s_Way_init) (defBody s_Way_init) (defScope s_Way_init) [.ref A.T0] [] fi fdi) (MI : Mk K A.Way fi) (B4 : Binds K fdi pm_Way_init []) {d3 : List Value} (V3 : Vals [.ref A.T0] d3) (B3 : Binds K fdi pm_Way_init d3)
    {f : Addr} {fd : FuncData} (F : Fun K "law" "law" s_law f fd) : FnOk P w K mg base CX0 13 f fd pm_law (spLaw K) := by
  have X1 : XCls P w K mg base "BadPart" "part" A.BadPart := T.BadPart.cls fun _ _ F => ok_xp F T
  have X2 : XCls P w K mg base "BadBox" "index" A.BadBox := T.BadBox.cls fun _ _ F => ok_xb F T
  have O1 : Own P w K mg base CX0 "is_integer" 1 pm_is_integer (spInteger K) := D_is_integer.own fun f fd F => ok_integer F T
  have O2 : Own P w K mg base CX0 "is_between" 2 pm_is_between (spBetween K) := D_is_between.own fun f fd F => ok_between F O1
  have O3 : Own P w K mg base CX0 "is_list" 1 pm_is_list (spIsList K) := D_is_list.own fun f fd F => ok_isList F T
  have O4 : Own P w K mg base CX0 "is_list_of" 2 pm_is_list_of (spListOf K) := D_is_list_of.own fun f fd F => ok_listOf F T O3
  have O5 : Own P w K mg base CX0 "is_tuple_of" 1 pm_is_tuple_of (spTupleOf K) := D_is_tuple_of.own fun f fd F => ok_tupleOf F T
  have O6 : Own P w K mg base CX0 "is_begin" 3 pm_is_begin (spBegin K) := D_is_begin.own fun f fd F => ok_begin F T O2
  have O7 : Own P w K mg base CX0 "are_delays" 3 pm_are_delays (spDelays K) := D_are_delays.own fun f fd F => ok_delays F T O2
  have O8 : Own P w K mg base CX0 "is_box" 3 pm_is_box (spBoxOk K) := D_is_box.own fun f fd F => ok_box F T O2 O5
  have GI : FnOk P w K mg base (L2.CX P w) 5 fi fdi pm_Way_init (spWayInit K A) := ok_wayInit FI T O6 O7 O4 O8 X1 X2
  have OW : OwnC P w K mg base (L2.CX P w) "Way" A.Way 5 pm_Way_init (spWayInit K A) := ⟨fi, fdi, GI, MI, T.Way.gC, B4⟩
  have OW3 : OwnCD P w K mg base (L2.CX P w) "Way" A.Way 5 pm_Way_init (spWayInit K A) [.ref A.T0] := ⟨fi, fdi, d3, GI, MI, T.Way.gC, B3, V3⟩
  have OWw : OwnM P w K mg base CX0 A.Way "window" 1 pm_Way_window (spWindow K A) := M_Way_window.own fun f fd F => ok_window F T
  have OWb : OwnM P w K mg base (L2.CX P w) A.Way "begun_at" 7 pm_Way_begun_at (spBegun K A) := M_Way_begun_at.own fun f fd F => ok_begun F T OW
  have OWe : OwnM P w K mg base CX0 A.Way "__eq__" 1 pm_Way_eq (spWayEq K A) := M_Way_eq.own fun f fd F => ok_wayEq F T
  have O9 : Own P w K mg base CX0 "_law_draw" 1 pm__law_draw spDraw := D__law_draw.own fun f fd F => ok_draw F T
  have O10 : Own P w K mg base CX0 "_law_box" 2 pm__law_box spLBox := D__law_box.own fun f fd F => ok_lbox F T O9
  have O11 : Own P w K mg base CX0 "_law_number" 1 pm__law_number (spInteger K) := D__law_number.own fun f fd F => ok_number F T
  have O12 : Own P w K mg base CX0 "_law_box_fits" 2 pm__law_box_fits (spBoxFits K) := D__law_box_fits.own fun f fd F => ok_boxFits F T O11
  have O13 : Own P w K mg base CX0 "_law_due" 3 pm__law_due (spDue K) := D__law_due.own fun f fd F => ok_due F T O11 O12
  have ON : OwnE P w K mg base A := by
    obtain ⟨f, fd, F, hm, hb⟩ := D__law_name.ex
    exact ⟨f, fd, ok_name F T, hm, F.kp, hb⟩
  have O14 : Own P w K mg base CX0 "_law_again" 9 pm__law_again (spAgain K A) := D__law_again.own fun f fd F => ok_again F T OWb ON
  have O15 : Own P w K mg base CX0 "_law_asked" 11 pm__law_asked (spAsked K A) := D__law_asked.own fun f fd F => ok_asked F T OW OW3 OWw OWe O14
  exact ok_law F T O9 O10 O13 OW ON O15
end
theorem all_mk {P : Program} {w : World} {K : PySem.W.Frag} {h : Heap} {mg : Str → Option Value} {fa Td AT0 ABadPart ABadBox AWholeError AWay f_is_integer f_is_between f_is_list f_is_list_of f_is_tuple_of f_is_begin f_are_delays f_is_box f__law_draw f__law_box f__law_number f__law_box_fits f__law_due f__law_name f__law_again f__law_asked f_law f_BadPart_init f_BadBox_init f_Way_init f_Way_window f_Way_begun_at f_Way_eq : Addr} (X : K.In h) (G : h.Ns mainGlobals mg) (hfa : mg "law" = some (.ref fa))
    {od_is_integer an_is_integer od_is_between an_is_between od_is_list an_is_list od_is_list_of an_is_list_of od_is_tuple_of an_is_tuple_of od_is_begin an_is_begin od_are_delays an_are_delays od_is_box an_is_box od__law_draw an__law_draw od__law_box an__law_box od__law_number an__law_number od__law_box_fits an__law_box_fits od__law_due an__law_due od__law_name an__law_name od__law_again an__law_again od__law_asked an__law_asked od_law an_law od_BadPart_init an_BadPart_init od_BadBox_init an_BadBox_init od_Way_init an_Way_init od_Way_window an_Way_window od_Way_begun_at an_Way_begun_at od_Way_eq an_Way_eq ddt edt : Option Addr} {sl_is_integer sl_is_between sl_is_list sl_is_list_of sl_is_tuple_of sl_is_begin sl_are_delays sl_is_box sl__law_draw sl__law_box sl__law_number sl__law_box_fits sl__law_due sl__law_name sl__law_again sl__law_asked sl_law sl_BadPart_init sl_BadBox_init sl_Way_init sl_Way_window sl_Way_begun_at sl_Way_eq dsl esl : Array (Option Value)} {oc_is_integer kV_is_integer dc_is_integer pm_is_integer_ cd_is_integer ct_is_integer oc_is_between kV_is_between dc_is_between pm_is_between_ cd_is_between ct_is_between oc_is_list kV_is_list dc_is_list pm_is_list_ cd_is_list ct_is_list oc_is_list_of kV_is_list_of dc_is_list_of pm_is_list_of_ cd_is_list_of ct_is_list_of oc_is_tuple_of kV_is_tuple_of dc_is_tuple_of pm_is_tuple_of_ cd_is_tuple_of ct_is_tuple_of oc_is_begin kV_is_begin dc_is_begin pm_is_begin_ cd_is_begin ct_is_begin oc_are_delays kV_are_delays dc_are_delays pm_are_delays_ cd_are_delays ct_are_delays oc_is_box kV_is_box dc_is_box pm_is_box_ cd_is_box ct_is_box oc__law_draw kV__law_draw dc__law_draw pm__law_draw_ cd__law_draw ct__law_draw oc__law_box kV__law_box dc__law_box pm__law_box_ cd__law_box ct__law_box oc__law_number kV__law_number dc__law_number pm__law_number_ cd__law_number ct__law_number oc__law_box_fits kV__law_box_fits dc__law_box_fits pm__law_box_fits_ cd__law_box_fits ct__law_box_fits oc__law_due kV__law_due dc__law_due pm__law_due_ cd__law_due ct__law_due oc__law_name kV__law_name dc__law_name pm__law_name_ cd__law_name ct__law_name oc__law_again kV__law_again dc__law_again pm__law_again_ cd__law_again ct__law_again oc__law_asked kV__law_asked dc__law_asked pm__law_asked_ cd__law_asked ct__law_asked oc_law kV_law dc_law pm_law_ cd_law ct_law oc_BadPart_init kV_BadPart_init dc_BadPart_init pm_BadPart_init_ cd_BadPart_init ct_BadPart_init oc_BadBox_init kV_BadBox_init dc_BadBox_init pm_BadBox_init_ cd_BadBox_init ct_BadBox_init oc_Way_init kV_Way_init dc_Way_init pm_Way_init_ cd_Way_init ct_Way_init oc_Way_window kV_Way_window dc_Way_window pm_Way_window_ cd_Way_window ct_Way_window oc_Way_begun_at kV_Way_begun_at dc_Way_begun_at pm_Way_begun_at_ cd_Way_begun_at ct_Way_begun_at oc_Way_eq kV_Way_eq dc_Way_eq pm_Way_eq_ cd_Way_eq ct_Way_eq dcl : Value} {t_MOST_BEGIN t_MOST_DELAY t_MOST_BOXES t_MOST_KEEP : Tok} {dn en : Nat}
    {xBadPart_nm xBadPart_q : Str} {xBadPart_N : Addr} {xBadPart_bs : List Value} {xBadPart_sn : List Str} {xBadPart_sub : List Value} {xBadPart_ab : Bool} {xBadPart_col : Option Bool} {xBadPart_dd : Option Addr} {xBadPart_m0 xBadPart_m1 xBadPart_m2 xBadPart_m3 xBadPart_m5 : Option Value}
    {xBadBox_nm xBadBox_q : Str} {xBadBox_N : Addr} {xBadBox_bs : List Value} {xBadBox_sn : List Str} {xBadBox_sub : List Value} {xBadBox_ab : Bool} {xBadBox_col : Option Bool} {xBadBox_dd : Option Addr} {xBadBox_m0 xBadBox_m1 xBadBox_m2 xBadBox_m3 xBadBox_m5 : Option Value}
    (g_BadPart : PySem.W.nsIn K mainGlobals "BadPart" = some (some (.ref ABadPart)))
    (g_BadBox : PySem.W.nsIn K mainGlobals "BadBox" = some (some (.ref ABadBox)))
    (g_WholeError : PySem.W.nsIn K mainGlobals "WholeError" = some (some (.ref AWholeError)))
    (g_Way : PySem.W.nsIn K mainGlobals "Way" = some (some (.ref AWay)))
    (a_is_integer : PySem.W.nsIn K mainGlobals "is_integer" = some (some (.ref f_is_integer)))
    (l_is_integer : K.lookup f_is_integer = some ⟨oc_is_integer, od_is_integer, .func (PySem.W.fnOf "is_integer" "is_integer" (defArgs s_is_integer) (defBody s_is_integer) (defScope s_is_integer) .none kV_is_integer dc_is_integer pm_is_integer_ an_is_integer cd_is_integer ct_is_integer), sl_is_integer⟩)
    (c_is_integer : PySem.W.codeIn K cd_is_integer "is_integer" = true)
    (k_is_integer : PySem.W.keepIn K (.ref f_is_integer) = true)
    (a_is_between : PySem.W.nsIn K mainGlobals "is_between" = some (some (.ref f_is_between)))
    (l_is_between : K.lookup f_is_between = some ⟨oc_is_between, od_is_between, .func (PySem.W.fnOf "is_between" "is_between" (defArgs s_is_between) (defBody s_is_between) (defScope s_is_between) .none kV_is_between dc_is_between pm_is_between_ an_is_between cd_is_between ct_is_between), sl_is_between⟩)
    (c_is_between : PySem.W.codeIn K cd_is_between "is_between" = true)
    (k_is_between : PySem.W.keepIn K (.ref f_is_between) = true)
    (a_is_list : PySem.W.nsIn K mainGlobals "is_list" = some (some (.ref f_is_list)))
    (l_is_list : K.lookup f_is_list = some ⟨oc_is_list, od_is_list, .func (PySem.W.fnOf "is_list" "is_list" (defArgs s_is_list) (defBody s_is_list) (defScope s_is_list) .none kV_is_list dc_is_list pm_is_list_ an_is_list cd_is_list ct_is_list), sl_is_list⟩)
    (c_is_list : PySem.W.codeIn K cd_is_list "is_list" = true)
    (k_is_list : PySem.W.keepIn K (.ref f_is_list) = true)
    (a_is_list_of : PySem.W.nsIn K mainGlobals "is_list_of" = some (some (.ref f_is_list_of)))
    (l_is_list_of : K.lookup f_is_list_of = some ⟨oc_is_list_of, od_is_list_of, .func (PySem.W.fnOf "is_list_of" "is_list_of" (defArgs s_is_list_of) (defBody s_is_list_of) (defScope s_is_list_of) .none kV_is_list_of dc_is_list_of pm_is_list_of_ an_is_list_of cd_is_list_of ct_is_list_of), sl_is_list_of⟩)
    (c_is_list_of : PySem.W.codeIn K cd_is_list_of "is_list_of" = true)
    (k_is_list_of : PySem.W.keepIn K (.ref f_is_list_of) = true)
    (a_is_tuple_of : PySem.W.nsIn K mainGlobals "is_tuple_of" = some (some (.ref f_is_tuple_of)))
    (l_is_tuple_of : K.lookup f_is_tuple_of = some ⟨oc_is_tuple_of, od_is_tuple_of, .func (PySem.W.fnOf "is_tuple_of" "is_tuple_of" (defArgs s_is_tuple_of) (defBody s_is_tuple_of) (defScope s_is_tuple_of) .none kV_is_tuple_of dc_is_tuple_of pm_is_tuple_of_ an_is_tuple_of cd_is_tuple_of ct_is_tuple_of), sl_is_tuple_of⟩)
    (c_is_tuple_of : PySem.W.codeIn K cd_is_tuple_of "is_tuple_of" = true)
    (k_is_tuple_of : PySem.W.keepIn K (.ref f_is_tuple_of) = true)
    (a_is_begin : PySem.W.nsIn K mainGlobals "is_begin" = some (some (.ref f_is_begin)))
    (l_is_begin : K.lookup f_is_begin = some ⟨oc_is_begin, od_is_begin, .func (PySem.W.fnOf "is_begin" "is_begin" (defArgs s_is_begin) (defBody s_is_begin) (defScope s_is_begin) .none kV_is_begin dc_is_begin pm_is_begin_ an_is_begin cd_is_begin ct_is_begin), sl_is_begin⟩)
    (c_is_begin : PySem.W.codeIn K cd_is_begin "is_begin" = true)
    (k_is_begin : PySem.W.keepIn K (.ref f_is_begin) = true)
    (a_are_delays : PySem.W.nsIn K mainGlobals "are_delays" = some (some (.ref f_are_delays)))
    (l_are_delays : K.lookup f_are_delays = some ⟨oc_are_delays, od_are_delays, .func (PySem.W.fnOf "are_delays" "are_delays" (defArgs s_are_delays) (defBody s_are_delays) (defScope s_are_delays) .none kV_are_delays dc_are_delays pm_are_delays_ an_are_delays cd_are_delays ct_are_delays), sl_are_delays⟩)
    (c_are_delays : PySem.W.codeIn K cd_are_delays "are_delays" = true)
    (k_are_delays : PySem.W.keepIn K (.ref f_are_delays) = true)
    (a_is_box : PySem.W.nsIn K mainGlobals "is_box" = some (some (.ref f_is_box)))
    (l_is_box : K.lookup f_is_box = some ⟨oc_is_box, od_is_box, .func (PySem.W.fnOf "is_box" "is_box" (defArgs s_is_box) (defBody s_is_box) (defScope s_is_box) .none kV_is_box dc_is_box pm_is_box_ an_is_box cd_is_box ct_is_box), sl_is_box⟩)
    (c_is_box : PySem.W.codeIn K cd_is_box "is_box" = true)
    (k_is_box : PySem.W.keepIn K (.ref f_is_box) = true)
    (a__law_draw : PySem.W.nsIn K mainGlobals "_law_draw" = some (some (.ref f__law_draw)))
    (l__law_draw : K.lookup f__law_draw = some ⟨oc__law_draw, od__law_draw, .func (PySem.W.fnOf "_law_draw" "_law_draw" (defArgs s__law_draw) (defBody s__law_draw) (defScope s__law_draw) .none kV__law_draw dc__law_draw pm__law_draw_ an__law_draw cd__law_draw ct__law_draw), sl__law_draw⟩)
    (c__law_draw : PySem.W.codeIn K cd__law_draw "_law_draw" = true)
    (k__law_draw : PySem.W.keepIn K (.ref f__law_draw) = true)
    (a__law_box : PySem.W.nsIn K mainGlobals "_law_box" = some (some (.ref f__law_box)))
    (l__law_box : K.lookup f__law_box = some ⟨oc__law_box, od__law_box, .func (PySem.W.fnOf "_law_box" "_law_box" (defArgs s__law_box) (defBody s__law_box) (defScope s__law_box) .none kV__law_box dc__law_box pm__law_box_ an__law_box cd__law_box ct__law_box), sl__law_box⟩)
    (c__law_box : PySem.W.codeIn K cd__law_box "_law_box" = true)
    (k__law_box : PySem.W.keepIn K (.ref f__law_box) = true)
    (a__law_number : PySem.W.nsIn K mainGlobals "_law_number" = some (some (.ref f__law_number)))
    (l__law_number : K.lookup f__law_number = some ⟨oc__law_number, od__law_number, .func (PySem.W.fnOf "_law_number" "_law_number" (defArgs s__law_number) (defBody s__law_number) (defScope s__law_number) .none kV__law_number dc__law_number pm__law_number_ an__law_number cd__law_number ct__law_number), sl__law_number⟩)
    (c__law_number : PySem.W.codeIn K cd__law_number "_law_number" = true)
    (k__law_number : PySem.W.keepIn K (.ref f__law_number) = true)
    (a__law_box_fits : PySem.W.nsIn K mainGlobals "_law_box_fits" = some (some (.ref f__law_box_fits)))
    (l__law_box_fits : K.lookup f__law_box_fits = some ⟨oc__law_box_fits, od__law_box_fits, .func (PySem.W.fnOf "_law_box_fits" "_law_box_fits" (defArgs s__law_box_fits) (defBody s__law_box_fits) (defScope s__law_box_fits) .none kV__law_box_fits dc__law_box_fits pm__law_box_fits_ an__law_box_fits cd__law_box_fits ct__law_box_fits), sl__law_box_fits⟩)
    (c__law_box_fits : PySem.W.codeIn K cd__law_box_fits "_law_box_fits" = true)
    (k__law_box_fits : PySem.W.keepIn K (.ref f__law_box_fits) = true)
    (a__law_due : PySem.W.nsIn K mainGlobals "_law_due" = some (some (.ref f__law_due)))
    (l__law_due : K.lookup f__law_due = some ⟨oc__law_due, od__law_due, .func (PySem.W.fnOf "_law_due" "_law_due" (defArgs s__law_due) (defBody s__law_due) (defScope s__law_due) .none kV__law_due dc__law_due pm__law_due_ an__law_due cd__law_due ct__law_due), sl__law_due⟩)
    (c__law_due : PySem.W.codeIn K cd__law_due "_law_due" = true)
    (k__law_due : PySem.W.keepIn K (.ref f__law_due) = true)
    (a__law_name : PySem.W.nsIn K mainGlobals "_law_name" = some (some (.ref f__law_name)))
    (l__law_name : K.lookup f__law_name = some ⟨oc__law_name, od__law_name, .func (PySem.W.fnOf "_law_name" "_law_name" (defArgs s__law_name) (defBody s__law_name) (defScope s__law_name) .none kV__law_name dc__law_name pm__law_name_ an__law_name cd__law_name ct__law_name), sl__law_name⟩)
    (c__law_name : PySem.W.codeIn K cd__law_name "_law_name" = true)
    (k__law_name : PySem.W.keepIn K (.ref f__law_name) = true)
    (a__law_again : PySem.W.nsIn K mainGlobals "_law_again" = some (some (.ref f__law_again)))
    (l__law_again : K.lookup f__law_again = some ⟨oc__law_again, od__law_again, .func (PySem.W.fnOf "_law_again" "_law_again" (defArgs s__law_again) (defBody s__law_again) (defScope s__law_again) .none kV__law_again dc__law_again pm__law_again_ an__law_again cd__law_again ct__law_again), sl__law_again⟩)
    (c__law_again : PySem.W.codeIn K cd__law_again "_law_again" = true)
    (k__law_again : PySem.W.keepIn K (.ref f__law_again) = true)
    (a__law_asked : PySem.W.nsIn K mainGlobals "_law_asked" = some (some (.ref f__law_asked)))
    (l__law_asked : K.lookup f__law_asked = some ⟨oc__law_asked, od__law_asked, .func (PySem.W.fnOf "_law_asked" "_law_asked" (defArgs s__law_asked) (defBody s__law_asked) (defScope s__law_asked) .none kV__law_asked dc__law_asked pm__law_asked_ an__law_asked cd__law_asked ct__law_asked), sl__law_asked⟩)
    (c__law_asked : PySem.W.codeIn K cd__law_asked "_law_asked" = true)
    (k__law_asked : PySem.W.keepIn K (.ref f__law_asked) = true)
    (a_law : PySem.W.nsIn K mainGlobals "law" = some (some (.ref f_law)))
    (l_law : K.lookup f_law = some ⟨oc_law, od_law, .func (PySem.W.fnOf "law" "law" (defArgs s_law) (defBody s_law) (defScope s_law) .none kV_law dc_law pm_law_ an_law cd_law ct_law), sl_law⟩)
    (c_law : PySem.W.codeIn K cd_law "law" = true)
    (k_law : PySem.W.keepIn K (.ref f_law) = true)
    (a_BadPart_init : PySem.W.findIn K (.ref ABadPart) "__init__" = some (some (.ref f_BadPart_init)))
    (i_BadPart_init : PySem.W.typeIn K (.ref f_BadPart_init) = some (.type "function"))
    (l_BadPart_init : K.lookup f_BadPart_init = some ⟨oc_BadPart_init, od_BadPart_init, .func (PySem.W.fnOf "__init__" "BadPart.__init__" (defArgs s_BadPart_init) (defBody s_BadPart_init) (defScope s_BadPart_init) .none kV_BadPart_init dc_BadPart_init pm_BadPart_init_ an_BadPart_init cd_BadPart_init ct_BadPart_init), sl_BadPart_init⟩)
    (c_BadPart_init : PySem.W.codeIn K cd_BadPart_init "BadPart.__init__" = true)
    (k_BadPart_init : PySem.W.keepIn K (.ref f_BadPart_init) = true)
    (a_BadBox_init : PySem.W.findIn K (.ref ABadBox) "__init__" = some (some (.ref f_BadBox_init)))
    (i_BadBox_init : PySem.W.typeIn K (.ref f_BadBox_init) = some (.type "function"))
    (l_BadBox_init : K.lookup f_BadBox_init = some ⟨oc_BadBox_init, od_BadBox_init, .func (PySem.W.fnOf "__init__" "BadBox.__init__" (defArgs s_BadBox_init) (defBody s_BadBox_init) (defScope s_BadBox_init) .none kV_BadBox_init dc_BadBox_init pm_BadBox_init_ an_BadBox_init cd_BadBox_init ct_BadBox_init), sl_BadBox_init⟩)
    (c_BadBox_init : PySem.W.codeIn K cd_BadBox_init "BadBox.__init__" = true)
    (k_BadBox_init : PySem.W.keepIn K (.ref f_BadBox_init) = true)
    (a_Way_init : PySem.W.findIn K (.ref AWay) "__init__" = some (some (.ref f_Way_init)))
    (i_Way_init : PySem.W.isFn K (.ref f_Way_init) = true)
    (l_Way_init : K.lookup f_Way_init = some ⟨oc_Way_init, od_Way_init, .func (PySem.W.fnOf "__init__" "Way.__init__" (defArgs s_Way_init) (defBody s_Way_init) (defScope s_Way_init) (.ref Td) kV_Way_init dc_Way_init pm_Way_init_ an_Way_init cd_Way_init ct_Way_init), sl_Way_init⟩)
    (c_Way_init : PySem.W.codeIn K cd_Way_init "Way.__init__" = true)
    (k_Way_init : PySem.W.keepIn K (.ref f_Way_init) = true)
    (a_Way_window : PySem.W.findIn K (.ref AWay) "window" = some (some (.ref f_Way_window)))
    (i_Way_window : PySem.W.isFn K (.ref f_Way_window) = true)
    (l_Way_window : K.lookup f_Way_window = some ⟨oc_Way_window, od_Way_window, .func (PySem.W.fnOf "window" "Way.window" (defArgs s_Way_window) (defBody s_Way_window) (defScope s_Way_window) .none kV_Way_window dc_Way_window pm_Way_window_ an_Way_window cd_Way_window ct_Way_window), sl_Way_window⟩)
    (c_Way_window : PySem.W.codeIn K cd_Way_window "Way.window" = true)
    (k_Way_window : PySem.W.keepIn K (.ref f_Way_window) = true)
    (a_Way_begun_at : PySem.W.findIn K (.ref AWay) "begun_at" = some (some (.ref f_Way_begun_at)))
    (i_Way_begun_at : PySem.W.isFn K (.ref f_Way_begun_at) = true)
    (l_Way_begun_at : K.lookup f_Way_begun_at = some ⟨oc_Way_begun_at, od_Way_begun_at, .func (PySem.W.fnOf "begun_at" "Way.begun_at" (defArgs s_Way_begun_at) (defBody s_Way_begun_at) (defScope s_Way_begun_at) .none kV_Way_begun_at dc_Way_begun_at pm_Way_begun_at_ an_Way_begun_at cd_Way_begun_at ct_Way_begun_at), sl_Way_begun_at⟩)
    (c_Way_begun_at : PySem.W.codeIn K cd_Way_begun_at "Way.begun_at" = true)
    (k_Way_begun_at : PySem.W.keepIn K (.ref f_Way_begun_at) = true)
    (a_Way_eq : PySem.W.findIn K (.ref AWay) "__eq__" = some (some (.ref f_Way_eq)))
    (i_Way_eq : PySem.W.isFn K (.ref f_Way_eq) = true)
    (l_Way_eq : K.lookup f_Way_eq = some ⟨oc_Way_eq, od_Way_eq, .func (PySem.W.fnOf "__eq__" "Way.__eq__" (defArgs s_Way_eq) (defBody s_Way_eq) (defScope s_Way_eq) .none kV_Way_eq dc_Way_eq pm_Way_eq_ an_Way_eq cd_Way_eq ct_Way_eq), sl_Way_eq⟩)
    (c_Way_eq : PySem.W.codeIn K cd_Way_eq "Way.__eq__" = true)
    (k_Way_eq : PySem.W.keepIn K (.ref f_Way_eq) = true)
    (d_T : K.lookup Td = some ⟨dcl, ddt, .seq #[.ref AT0] dn, dsl⟩)
    (d_0 : K.lookup AT0 = some ⟨.type "tuple", edt, .seq #[] en, esl⟩)
    (n_isinstance : PySem.W.nsIn K mainGlobals "isinstance" = some none)
    (n_int : PySem.W.nsIn K mainGlobals "int" = some none)
    (n_bool : PySem.W.nsIn K mainGlobals "bool" = some none)
    (n_list : PySem.W.nsIn K mainGlobals "list" = some none)
    (n_tuple : PySem.W.nsIn K mainGlobals "tuple" = some none)
    (n_len : PySem.W.nsIn K mainGlobals "len" = some none)
    (n_range : PySem.W.nsIn K mainGlobals "range" = some none)
    (n_max : PySem.W.nsIn K mainGlobals "max" = some none)
    (n_enumerate : PySem.W.nsIn K mainGlobals "enumerate" = some none)
    (v_MOST_BEGIN : PySem.W.nsIn K mainGlobals "MOST_BEGIN" = some (some (.int 1000 t_MOST_BEGIN)))
    (v_MOST_DELAY : PySem.W.nsIn K mainGlobals "MOST_DELAY" = some (some (.int 50 t_MOST_DELAY)))
    (v_MOST_BOXES : PySem.W.nsIn K mainGlobals "MOST_BOXES" = some (some (.int 3 t_MOST_BOXES)))
    (v_MOST_KEEP : PySem.W.nsIn K mainGlobals "MOST_KEEP" = some (some (.int 10000 t_MOST_KEEP)))
    (s_hn : PySem.W.specialIn K (.builtin "object.__class__") "__get__" = some (some (.builtin "getset_descriptor.__get__")))
    (s_tk : PySem.W.takesIn K (.builtin "object.__class__") = some true)
    (pg_Way : PySem.W.plainGet K AWay Str.empty = true)
    (hd_Way : PySem.W.hasDictIn K AWay = true)
    (po_Way : PySem.W.plainOver K AWay = true)
    (sa_Way : PySem.W.findIn K (.ref AWay) "__setattr__" = some (some (.builtin "object.__setattr__")))
    (ha_Way : PySem.W.findIn K (.ref AWay) "__class__" = some (some (.builtin "object.__class__")))
    (hm_Way : PySem.W.mroIn K AWay (.type "object") = some true)
    (ne_Way : PySem.W.findIn K (.ref AWay) "__ne__" = some (some (.builtin "object.__ne__")))
    (is_Way : PySem.W.isClsIn K AWay = true)
    (ty_Way : PySem.W.typeIn K (.ref AWay) = some (.type "type"))
    (tup_Way : PySem.W.subIn K (.ref AWay) (.type "tuple") = some false)
    (lst_Way : PySem.W.subIn K (.ref AWay) (.type "list") = some false)
    (int_Way : PySem.W.subIn K (.ref AWay) (.type "int") = some false)
    (str_Way : PySem.W.subIn K (.ref AWay) (.type "str") = some false)
    (mk_Way : PySem.W.makesIn K AWay = true)
    (kc_Way : PySem.W.keepIn K (.ref AWay) = true)
    (na_begin : PySem.W.findIn K (.ref AWay) "begin" = some none)
    (na_least : PySem.W.findIn K (.ref AWay) "least" = some none)
    (na_most : PySem.W.findIn K (.ref AWay) "most" = some none)
    (na_boxes : PySem.W.findIn K (.ref AWay) "boxes" = some none)
    (xBadPart_L : K.lookup ABadPart = some (excClassObj xBadPart_nm xBadPart_q ABadPart xBadPart_N xBadPart_bs [.ref AWholeError, .type "ValueError", .type "Exception", .type "BaseException", .type "object"] true xBadPart_sn xBadPart_sub xBadPart_ab xBadPart_col xBadPart_dd xBadPart_m0 xBadPart_m1 xBadPart_m2 xBadPart_m3 xBadPart_m5 "ValueError.__new__"))
    (xBadPart_sa : PySem.W.findIn K (.ref ABadPart) "__setattr__" = some (some (.builtin "object.__setattr__")))
    (xBadPart_ex : PySem.W.subIn K (.ref ABadPart) (.type "BaseException") = some true)
    (xBadPart_ty : PySem.W.typeIn K (.ref ABadPart) = some (.type "type"))
    (xBadPart_kC : PySem.W.keepIn K (.ref ABadPart) = true)
    (xBadPart_noA : PySem.W.findIn K (.ref ABadPart) "part" = some none)
    (xBadPart_hg : PySem.W.findIn K (.ref ABadPart) "__getattribute__" = some (some (.builtin "BaseException.__getattribute__")))
    (xBadPart_hk : PySem.W.findIn K (.ref ABadPart) "__getattr__" = some none)
    (xBadPart_hd : PySem.W.hasDictIn K ABadPart = true)
    (xBadPart_ha : PySem.W.findIn K (.ref ABadPart) "__class__" = some (some (.builtin "object.__class__")))
    (xBadPart_hm : PySem.W.mroIn K ABadPart (.type "object") = some true)
    (xBadPart_is : PySem.W.isClsIn K ABadPart = true)
    (xBadPart_ss : PySem.W.subIn K (.ref ABadPart) (.ref ABadPart) = some true)
    (xBadPart_w : PySem.W.subIn K (.ref ABadPart) (.ref AWholeError) = some true)
    (xBadBox_L : K.lookup ABadBox = some (excClassObj xBadBox_nm xBadBox_q ABadBox xBadBox_N xBadBox_bs [.ref AWholeError, .type "ValueError", .type "Exception", .type "BaseException", .type "object"] true xBadBox_sn xBadBox_sub xBadBox_ab xBadBox_col xBadBox_dd xBadBox_m0 xBadBox_m1 xBadBox_m2 xBadBox_m3 xBadBox_m5 "ValueError.__new__"))
    (xBadBox_sa : PySem.W.findIn K (.ref ABadBox) "__setattr__" = some (some (.builtin "object.__setattr__")))
    (xBadBox_ex : PySem.W.subIn K (.ref ABadBox) (.type "BaseException") = some true)
    (xBadBox_ty : PySem.W.typeIn K (.ref ABadBox) = some (.type "type"))
    (xBadBox_kC : PySem.W.keepIn K (.ref ABadBox) = true)
    (xBadBox_noA : PySem.W.findIn K (.ref ABadBox) "index" = some none)
    (xBadBox_hg : PySem.W.findIn K (.ref ABadBox) "__getattribute__" = some (some (.builtin "BaseException.__getattribute__")))
    (xBadBox_hk : PySem.W.findIn K (.ref ABadBox) "__getattr__" = some none)
    (xBadBox_hd : PySem.W.hasDictIn K ABadBox = true)
    (xBadBox_ha : PySem.W.findIn K (.ref ABadBox) "__class__" = some (some (.builtin "object.__class__")))
    (xBadBox_hm : PySem.W.mroIn K ABadBox (.type "object") = some true)
    (xBadBox_is : PySem.W.isClsIn K ABadBox = true)
    (xBadBox_ss : PySem.W.subIn K (.ref ABadBox) (.ref ABadBox) = some true)
    (xBadBox_w : PySem.W.subIn K (.ref ABadBox) (.ref AWholeError) = some true)
    (xb_p : PySem.W.subIn K (.ref ABadBox) (.ref ABadPart) = some false)
    (xw_i : PySem.W.isClsIn K AWholeError = true)
    (xw_t : PySem.W.typeIn K (.ref AWholeError) = some (.type "type"))
    (xw_b : PySem.W.subIn K (.ref AWholeError) (.type "BaseException") = some true)
    : ∃ fd : FuncData, (∀ (s : Shared) (v : Value), BindsTo s fd ⟨[v], []⟩ [("_law_script", v)]) ∧ ∀ base : Heap, K.In base → base.Ns mainGlobals mg → FnOk P w K mg base CX0 13 fa fd ["_law_script"] (spLaw K) := by
  have e := hfa.symm.trans (PySem.W.mg_of X G a_law)
  cases e
  have F_is_integer := fun_mk (st := s_is_integer) l_is_integer c_is_integer k_is_integer
  have D_is_integer : DefAt K mg "is_integer" s_is_integer pm_is_integer := ⟨_, _, F_is_integer, PySem.W.mg_of X G a_is_integer, F_is_integer.binds (ps := pm_is_integer) fun _ _ _ _ _ _ us hl => match us, hl with | [_], _ => rfl⟩
  have F_is_between := fun_mk (st := s_is_between) l_is_between c_is_between k_is_between
  have D_is_between : DefAt K mg "is_between" s_is_between pm_is_between := ⟨_, _, F_is_between, PySem.W.mg_of X G a_is_between, F_is_between.binds (ps := pm_is_between) fun _ _ _ _ _ _ us hl => match us, hl with | [_, _, _], _ => rfl⟩
  have F_is_list := fun_mk (st := s_is_list) l_is_list c_is_list k_is_list
  have D_is_list : DefAt K mg "is_list" s_is_list pm_is_list := ⟨_, _, F_is_list, PySem.W.mg_of X G a_is_list, F_is_list.binds (ps := pm_is_list) fun _ _ _ _ _ _ us hl => match us, hl with | [_], _ => rfl⟩
  have F_is_list_of := fun_mk (st := s_is_list_of) l_is_list_of c_is_list_of k_is_list_of
  have D_is_list_of : DefAt K mg "is_list_of" s_is_list_of pm_is_list_of := ⟨_, _, F_is_list_of, PySem.W.mg_of X G a_is_list_of, F_is_list_of.binds (ps := pm_is_list_of) fun _ _ _ _ _ _ us hl => match us, hl with | [_, _, _], _ => rfl⟩
  have F_is_tuple_of := fun_mk (st := s_is_tuple_of) l_is_tuple_of c_is_tuple_of k_is_tuple_of
  have D_is_tuple_of : DefAt K mg "is_tuple_of" s_is_tuple_of pm_is_tuple_of := ⟨_, _, F_is_tuple_of, PySem.W.mg_of X G a_is_tuple_of, F_is_tuple_of.binds (ps := pm_is_tuple_of) fun _ _ _ _ _ _ us hl => match us, hl with | [_, _], _ => rfl⟩
  have F_is_begin := fun_mk (st := s_is_begin) l_is_begin c_is_begin k_is_begin
  have D_is_begin : DefAt K mg "is_begin" s_is_begin pm_is_begin := ⟨_, _, F_is_begin, PySem.W.mg_of X G a_is_begin, F_is_begin.binds (ps := pm_is_begin) fun _ _ _ _ _ _ us hl => match us, hl with | [_], _ => rfl⟩
  have F_are_delays := fun_mk (st := s_are_delays) l_are_delays c_are_delays k_are_delays
  have D_are_delays : DefAt K mg "are_delays" s_are_delays pm_are_delays := ⟨_, _, F_are_delays, PySem.W.mg_of X G a_are_delays, F_are_delays.binds (ps := pm_are_delays) fun _ _ _ _ _ _ us hl => match us, hl with | [_, _], _ => rfl⟩
  have F_is_box := fun_mk (st := s_is_box) l_is_box c_is_box k_is_box
  have D_is_box : DefAt K mg "is_box" s_is_box pm_is_box := ⟨_, _, F_is_box, PySem.W.mg_of X G a_is_box, F_is_box.binds (ps := pm_is_box) fun _ _ _ _ _ _ us hl => match us, hl with | [_, _, _], _ => rfl⟩
  have F__law_draw := fun_mk (st := s__law_draw) l__law_draw c__law_draw k__law_draw
  have D__law_draw : DefAt K mg "_law_draw" s__law_draw pm__law_draw := ⟨_, _, F__law_draw, PySem.W.mg_of X G a__law_draw, F__law_draw.binds (ps := pm__law_draw) fun _ _ _ _ _ _ us hl => match us, hl with | [_, _], _ => rfl⟩
  have F__law_box := fun_mk (st := s__law_box) l__law_box c__law_box k__law_box
  have D__law_box : DefAt K mg "_law_box" s__law_box pm__law_box := ⟨_, _, F__law_box, PySem.W.mg_of X G a__law_box, F__law_box.binds (ps := pm__law_box) fun _ _ _ _ _ _ us hl => match us, hl with | [_, _, _], _ => rfl⟩
  have F__law_number := fun_mk (st := s__law_number) l__law_number c__law_number k__law_number
  have D__law_number : DefAt K mg "_law_number" s__law_number pm__law_number := ⟨_, _, F__law_number, PySem.W.mg_of X G a__law_number, F__law_number.binds (ps := pm__law_number) fun _ _ _ _ _ _ us hl => match us, hl with | [_], _ => rfl⟩
  have F__law_box_fits := fun_mk (st := s__law_box_fits) l__law_box_fits c__law_box_fits k__law_box_fits
  have D__law_box_fits : DefAt K mg "_law_box_fits" s__law_box_fits pm__law_box_fits := ⟨_, _, F__law_box_fits, PySem.W.mg_of X G a__law_box_fits, F__law_box_fits.binds (ps := pm__law_box_fits) fun _ _ _ _ _ _ us hl => match us, hl with | [_, _, _], _ => rfl⟩
  have F__law_due := fun_mk (st := s__law_due) l__law_due c__law_due k__law_due
  have D__law_due : DefAt K mg "_law_due" s__law_due pm__law_due := ⟨_, _, F__law_due, PySem.W.mg_of X G a__law_due, F__law_due.binds (ps := pm__law_due) fun _ _ _ _ _ _ us hl => match us, hl with | [_, _, _, _], _ => rfl⟩
  have F__law_name := fun_mk (st := s__law_name) l__law_name c__law_name k__law_name
  have D__law_name : DefAt K mg "_law_name" s__law_name pm__law_name := ⟨_, _, F__law_name, PySem.W.mg_of X G a__law_name, F__law_name.binds (ps := pm__law_name) fun _ _ _ _ _ _ us hl => match us, hl with | [_], _ => rfl⟩
  have F__law_again := fun_mk (st := s__law_again) l__law_again c__law_again k__law_again
  have D__law_again : DefAt K mg "_law_again" s__law_again pm__law_again := ⟨_, _, F__law_again, PySem.W.mg_of X G a__law_again, F__law_again.binds (ps := pm__law_again) fun _ _ _ _ _ _ us hl => match us, hl with | [_, _], _ => rfl⟩
  have F__law_asked := fun_mk (st := s__law_asked) l__law_asked c__law_asked k__law_asked
  have D__law_asked : DefAt K mg "_law_asked" s__law_asked pm__law_asked := ⟨_, _, F__law_asked, PySem.W.mg_of X G a__law_asked, F__law_asked.binds (ps := pm__law_asked) fun _ _ _ _ _ _ us hl => match us, hl with | [_, _, _, _, _], _ => rfl⟩
  have F_BadPart_init := fun_mk (st := s_BadPart_init) l_BadPart_init c_BadPart_init k_BadPart_init
  have F_BadBox_init := fun_mk (st := s_BadBox_init) l_BadBox_init c_BadBox_init k_BadBox_init
  have FI : FunD K "__init__" "Way.__init__" (defArgs s_Way_init) (defBody s_Way_init) (defScope s_Way_init) [.ref AT0] [] f_Way_init _ := ⟨⟨_, _, _, _, _, _, _, _, _, _, rfl, l_Way_init, c_Way_init, .inr ⟨(fun z => nomatch z), Td, _, [.ref AT0], dn, rfl, d_T, rfl, .cons rfl .nil⟩, .inl rfl⟩, k_Way_init⟩
  obtain ⟨d4, v4, B4⟩ := FI.binds1 (ps := pm_Way_init) 5 1 (fun z => nomatch z) rfl (fun T kV doc pm an cdv ct us its hu hi => match us, hu, its, hi with | [_, _, _, _, _], _, [_], _ => ⟨_, rfl, rfl⟩)
  obtain ⟨d3, v3, B3⟩ := FI.binds1 (ps := pm_Way_init) 4 0 (fun z => nomatch z) rfl (fun T kV doc pm an cdv ct us its hu hi => match us, hu, its, hi with | [_, _, _, _], _, [_], _ => ⟨_, rfl, rfl⟩)
  cases v4
  have F_Way_window := fun_mk (st := s_Way_window) l_Way_window c_Way_window k_Way_window
  have M_Way_window : MethAt K AWay "window" "Way.window" s_Way_window pm_Way_window := ⟨_, _, F_Way_window, a_Way_window, i_Way_window, F_Way_window.binds (ps := pm_Way_window) fun _ _ _ _ _ _ us hl => match us, hl with | [_], _ => rfl⟩
  have F_Way_begun_at := fun_mk (st := s_Way_begun_at) l_Way_begun_at c_Way_begun_at k_Way_begun_at
  have M_Way_begun_at : MethAt K AWay "begun_at" "Way.begun_at" s_Way_begun_at pm_Way_begun_at := ⟨_, _, F_Way_begun_at, a_Way_begun_at, i_Way_begun_at, F_Way_begun_at.binds (ps := pm_Way_begun_at) fun _ _ _ _ _ _ us hl => match us, hl with | [_, _], _ => rfl⟩
  have F_Way_eq := fun_mk (st := s_Way_eq) l_Way_eq c_Way_eq k_Way_eq
  have M_Way_eq : MethAt K AWay "__eq__" "Way.__eq__" s_Way_eq pm_Way_eq := ⟨_, _, F_Way_eq, a_Way_eq, i_Way_eq, F_Way_eq.binds (ps := pm_Way_eq) fun _ _ _ _ _ _ us hl => match us, hl with | [_, _], _ => rfl⟩
  have T : Txt K mg ⟨ABadPart, ABadBox, AWholeError, AWay, AT0⟩ :=
    { n_isinstance := PySem.W.mg_none_of X G n_isinstance, n_int := PySem.W.mg_none_of X G n_int, n_bool := PySem.W.mg_none_of X G n_bool, n_list := PySem.W.mg_none_of X G n_list, n_tuple := PySem.W.mg_none_of X G n_tuple, n_len := PySem.W.mg_none_of X G n_len, n_range := PySem.W.mg_none_of X G n_range, n_max := PySem.W.mg_none_of X G n_max, n_enumerate := PySem.W.mg_none_of X G n_enumerate,
      g_MOST_BEGIN := ⟨_, PySem.W.mg_of X G v_MOST_BEGIN⟩, g_MOST_DELAY := ⟨_, PySem.W.mg_of X G v_MOST_DELAY⟩, g_MOST_BOXES := ⟨_, PySem.W.mg_of X G v_MOST_BOXES⟩, g_MOST_KEEP := ⟨_, PySem.W.mg_of X G v_MOST_KEEP⟩,
      Way := ⟨PySem.W.mg_of X G g_Way, ⟨pg_Way, hd_Way, po_Way, sa_Way⟩, ha_Way, s_hn, s_tk, hm_Way, ne_Way, is_Way, ty_Way, tup_Way, lst_Way, int_Way, str_Way⟩, w_begin := na_begin, w_least := na_least, w_most := na_most, w_boxes := na_boxes,
      BadPart := ⟨⟨⟨_, _, _, _, _, _, _, _, _, _, _, _, _, _, _, xBadPart_L, ve_one⟩, xBadPart_sa, xBadPart_ex, xBadPart_ty, xBadPart_kC⟩, PySem.W.mg_of X G g_BadPart, xBadPart_noA, ⟨xBadPart_hg, xBadPart_hk, xBadPart_ex, xBadPart_hd, xBadPart_ha, s_hn, s_tk, xBadPart_hm⟩, _, a_BadPart_init, i_BadPart_init, _, F_BadPart_init, F_BadPart_init.binds (ps := ["self", "part"]) fun _ _ _ _ _ _ us hl => match us, hl with | [_, _], _ => rfl⟩,
      BadBox := ⟨⟨⟨_, _, _, _, _, _, _, _, _, _, _, _, _, _, _, xBadBox_L, ve_one⟩, xBadBox_sa, xBadBox_ex, xBadBox_ty, xBadBox_kC⟩, PySem.W.mg_of X G g_BadBox, xBadBox_noA, ⟨xBadBox_hg, xBadBox_hk, xBadBox_ex, xBadBox_hd, xBadBox_ha, s_hn, s_tk, xBadBox_hm⟩, _, a_BadBox_init, i_BadBox_init, _, F_BadBox_init, F_BadBox_init.binds (ps := ["self", "index"]) fun _ _ _ _ _ _ us hl => match us, hl with | [_, _], _ => rfl⟩,
      g_WholeError := PySem.W.mg_of X G g_WholeError, x_pp := kit_ref xBadPart_is xBadPart_ty xBadPart_ss xBadPart_ss, x_bp := kit_ref xBadPart_is xBadPart_ty xb_p xBadBox_ss, x_bb := kit_ref xBadBox_is xBadBox_ty xBadBox_ss xBadBox_ss,
      x_pw := exm_ref xw_b xw_i xw_t xBadPart_w, x_bw := exm_ref xw_b xw_i xw_t xBadBox_w, t0 := fun H => .inr ⟨_, #[], en, d_0, rfl, rfl, Nat.zero_le _, .nil⟩ }
  exact ⟨PySem.W.fnOf "law" "law" (defArgs s_law) (defBody s_law) (defScope s_law) .none kV_law dc_law pm_law_ an_law cd_law ct_law, fun s v => .of_eq rfl, fun base _ _ =>
    law_ok T D_is_integer D_is_between D_is_list D_is_list_of D_is_tuple_of D_is_begin D_are_delays D_is_box D__law_draw D__law_box D__law_number D__law_box_fits D__law_due D__law_name D__law_again D__law_asked M_Way_window M_Way_begun_at M_Way_eq FI ⟨mk_Way, a_Way_init, i_Way_init, kc_Way⟩ B4 v3 B3 (fun_mk (st := s_law) l_law c_law k_law)⟩
theorem walk {l : PySem.W.OpenLaw} {q : Program} {loose : List Str} {XP : (Str → Option Value) → Heap → Prop} {YP : World → Heap → Prop} {d : DefRec} {K : Params → PySem.W.Frag} (hn : l.most = some 63) (hdf : d.params.defaults = [])
    (hY : ∀ (w : World) (h : Heap), YP w h → (K w.params).In h)
    (F : ∀ (w : World) (mg : Str → Option Value) (fa : Addr) (h : Heap), (K w.params).In h → h.Ns mainGlobals mg → mg d.name = some (.ref fa) →
      ∃ fd : FuncData, (∀ (s : Shared) (u : Value), BindsTo s fd ⟨[u], []⟩ [("_law_script", u)]) ∧ ∀ base : Heap, (K w.params).In base → base.Ns mainGlobals mg → FnOk l.prog w (K w.params) mg base CX0 13 fa fd ["_law_script"] (spLaw (K w.params))) :
    PySem.W.WalkO q loose XP YP l.row.toRowW d [] (fun f vs => PySem.call f vs) :=
  L2.walk_of (n := 63) (k := 13) (x := "_law_script") (CX := fun _ => CX0) (sp := fun w => spLaw (K w.params)) hn (by decide) hdf ⟨rfl, by decide, by decide⟩ hY F (fun _ _ a ns hl _ hS => ⟨a, ns, rfl, hS, hl, fun _ => rfl⟩) fun _ _ _ _ _ z => z
end K15

open PySem PySem.W PyProof.Rows in
set_option maxRecDepth 100000 in
set_option maxHeartbeats 0 in
theorem PySem.Challenge.cw_wholeline_k15_ways_built_holds : PySem.Challenge.rw_wholeline_k15_ways_built.Holds := by
  w_on; o_law; k_head; (case hw => w_witness2)
  k_fill
  refine K15.walk (l := PySem.Challenge.rw_wholeline_k15_ways_built) rfl rfl (fun w h Y => PySem.W.kIn_of Y) ?F
  case F =>
    intro w mg fa h KX G hmg
    refine' K15.all_mk KX G hmg ?q_g_BadPart ?q_g_BadBox ?q_g_WholeError ?q_g_Way ?q_a_is_integer ?q_l_is_integer ?q_c_is_integer ?q_k_is_integer ?q_a_is_between ?q_l_is_between ?q_c_is_between ?q_k_is_between ?q_a_is_list ?q_l_is_list ?q_c_is_list ?q_k_is_list ?q_a_is_list_of ?q_l_is_list_of ?q_c_is_list_of ?q_k_is_list_of ?q_a_is_tuple_of ?q_l_is_tuple_of ?q_c_is_tuple_of ?q_k_is_tuple_of ?q_a_is_begin ?q_l_is_begin ?q_c_is_begin ?q_k_is_begin ?q_a_are_delays ?q_l_are_delays ?q_c_are_delays ?q_k_are_delays ?q_a_is_box ?q_l_is_box ?q_c_is_box ?q_k_is_box ?q_a__law_draw ?q_l__law_draw ?q_c__law_draw ?q_k__law_draw ?q_a__law_box ?q_l__law_box ?q_c__law_box ?q_k__law_box ?q_a__law_number ?q_l__law_number ?q_c__law_number ?q_k__law_number ?q_a__law_box_fits ?q_l__law_box_fits ?q_c__law_box_fits ?q_k__law_box_fits ?q_a__law_due ?q_l__law_due ?q_c__law_due ?q_k__law_due ?q_a__law_name ?q_l__law_name ?q_c__law_name ?q_k__law_name ?q_a__law_again ?q_l__law_again ?q_c__law_again ?q_k__law_again ?q_a__law_asked ?q_l__law_asked ?q_c__law_asked ?q_k__law_asked ?q_a_law ?q_l_law ?q_c_law ?q_k_law ?q_a_BadPart_init ?q_i_BadPart_init ?q_l_BadPart_init ?q_c_BadPart_init ?q_k_BadPart_init ?q_a_BadBox_init ?q_i_BadBox_init ?q_l_BadBox_init ?q_c_BadBox_init ?q_k_BadBox_init ?q_a_Way_init ?q_i_Way_init ?q_l_Way_init ?q_c_Way_init ?q_k_Way_init ?q_a_Way_window ?q_i_Way_window ?q_l_Way_window ?q_c_Way_window ?q_k_Way_window ?q_a_Way_begun_at ?q_i_Way_begun_at ?q_l_Way_begun_at ?q_c_Way_begun_at ?q_k_Way_begun_at ?q_a_Way_eq ?q_i_Way_eq ?q_l_Way_eq ?q_c_Way_eq ?q_k_Way_eq ?q_d_T ?q_d_0 ?q_n_isinstance ?q_n_int ?q_n_bool ?q_n_list ?q_n_tuple ?q_n_len ?q_n_range ?q_n_max ?q_n_enumerate ?q_v_MOST_BEGIN ?q_v_MOST_DELAY ?q_v_MOST_BOXES ?q_v_MOST_KEEP ?q_s_hn ?q_s_tk ?q_pg_Way ?q_hd_Way ?q_po_Way ?q_sa_Way ?q_ha_Way ?q_hm_Way ?q_ne_Way ?q_is_Way ?q_ty_Way ?q_tup_Way ?q_lst_Way ?q_int_Way ?q_str_Way ?q_mk_Way ?q_kc_Way ?q_na_begin ?q_na_least ?q_na_most ?q_na_boxes ?q_xBadPart_L ?q_xBadPart_sa ?q_xBadPart_ex ?q_xBadPart_ty ?q_xBadPart_kC ?q_xBadPart_noA ?q_xBadPart_hg ?q_xBadPart_hk ?q_xBadPart_hd ?q_xBadPart_ha ?q_xBadPart_hm ?q_xBadPart_is ?q_xBadPart_ss ?q_xBadPart_w ?q_xBadBox_L ?q_xBadBox_sa ?q_xBadBox_ex ?q_xBadBox_ty ?q_xBadBox_kC ?q_xBadBox_noA ?q_xBadBox_hg ?q_xBadBox_hk ?q_xBadBox_hd ?q_xBadBox_ha ?q_xBadBox_hm ?q_xBadBox_is ?q_xBadBox_ss ?q_xBadBox_w ?q_xb_p ?q_xw_i ?q_xw_t ?q_xw_b
    (case q_g_BadPart => k_is)
    (case q_g_BadBox => k_is)
    (case q_g_WholeError => k_is)
    (case q_g_Way => k_is)
    (case q_a_is_integer => k_is)
    (case q_l_is_integer => k_is)
    (case q_c_is_integer => k_is)
    (case q_k_is_integer => k_is)
    (case q_a_is_between => k_is)
    (case q_l_is_between => k_is)
    (case q_c_is_between => k_is)
    (case q_k_is_between => k_is)
    (case q_a_is_list => k_is)
    (case q_l_is_list => k_is)
    (case q_c_is_list => k_is)
    (case q_k_is_list => k_is)
    (case q_a_is_list_of => k_is)
    (case q_l_is_list_of => k_is)
    (case q_c_is_list_of => k_is)
    (case q_k_is_list_of => k_is)
    (case q_a_is_tuple_of => k_is)
    (case q_l_is_tuple_of => k_is)
    (case q_c_is_tuple_of => k_is)
    (case q_k_is_tuple_of => k_is)
    (case q_a_is_begin => k_is)
    (case q_l_is_begin => k_is)
    (case q_c_is_begin => k_is)
    (case q_k_is_begin => k_is)
    (case q_a_are_delays => k_is)
    (case q_l_are_delays => k_is)
    (case q_c_are_delays => k_is)
    (case q_k_are_delays => k_is)
    (case q_a_is_box => k_is)
    (case q_l_is_box => k_is)
    (case q_c_is_box => k_is)
    (case q_k_is_box => k_is)
    (case q_a__law_draw => k_is)
    (case q_l__law_draw => k_is)
    (case q_c__law_draw => k_is)
    (case q_k__law_draw => k_is)
    (case q_a__law_box => k_is)
    (case q_l__law_box => k_is)
    (case q_c__law_box => k_is)
    (case q_k__law_box => k_is)
    (case q_a__law_number => k_is)
    (case q_l__law_number => k_is)
    (case q_c__law_number => k_is)
    (case q_k__law_number => k_is)
    (case q_a__law_box_fits => k_is)
    (case q_l__law_box_fits => k_is)
    (case q_c__law_box_fits => k_is)
    (case q_k__law_box_fits => k_is)
    (case q_a__law_due => k_is)
    (case q_l__law_due => k_is)
    (case q_c__law_due => k_is)
    (case q_k__law_due => k_is)
    (case q_a__law_name => k_is)
    (case q_l__law_name => k_is)
    (case q_c__law_name => k_is)
    (case q_k__law_name => k_is)
    (case q_a__law_again => k_is)
    (case q_l__law_again => k_is)
    (case q_c__law_again => k_is)
    (case q_k__law_again => k_is)
    (case q_a__law_asked => k_is)
    (case q_l__law_asked => k_is)
    (case q_c__law_asked => k_is)
    (case q_k__law_asked => k_is)
    (case q_a_law => k_is)
    (case q_l_law => k_is)
    (case q_c_law => k_is)
    (case q_k_law => k_is)
    (case q_a_BadPart_init => k_is)
    (case q_i_BadPart_init => k_is)
    (case q_l_BadPart_init => k_is)
    (case q_c_BadPart_init => k_is)
    (case q_k_BadPart_init => k_is)
    (case q_a_BadBox_init => k_is)
    (case q_i_BadBox_init => k_is)
    (case q_l_BadBox_init => k_is)
    (case q_c_BadBox_init => k_is)
    (case q_k_BadBox_init => k_is)
    (case q_a_Way_init => k_is)
    (case q_i_Way_init => k_is)
    (case q_l_Way_init => k_is)
    (case q_c_Way_init => k_is)
    (case q_k_Way_init => k_is)
    (case q_a_Way_window => k_is)
    (case q_i_Way_window => k_is)
    (case q_l_Way_window => k_is)
    (case q_c_Way_window => k_is)
    (case q_k_Way_window => k_is)
    (case q_a_Way_begun_at => k_is)
    (case q_i_Way_begun_at => k_is)
    (case q_l_Way_begun_at => k_is)
    (case q_c_Way_begun_at => k_is)
    (case q_k_Way_begun_at => k_is)
    (case q_a_Way_eq => k_is)
    (case q_i_Way_eq => k_is)
    (case q_l_Way_eq => k_is)
    (case q_c_Way_eq => k_is)
    (case q_k_Way_eq => k_is)
    (case q_d_T => k_is)
    (case q_d_0 => k_is)
    (case q_n_isinstance => k_is)
    (case q_n_int => k_is)
    (case q_n_bool => k_is)
    (case q_n_list => k_is)
    (case q_n_tuple => k_is)
    (case q_n_len => k_is)
    (case q_n_range => k_is)
    (case q_n_max => k_is)
    (case q_n_enumerate => k_is)
    (case q_v_MOST_BEGIN => k_is)
    (case q_v_MOST_DELAY => k_is)
    (case q_v_MOST_BOXES => k_is)
    (case q_v_MOST_KEEP => k_is)
    (case q_s_hn => k_is)
    (case q_s_tk => k_is)
    (case q_pg_Way => k_is)
    (case q_hd_Way => k_is)
    (case q_po_Way => k_is)
    (case q_sa_Way => k_is)
    (case q_ha_Way => k_is)
    (case q_hm_Way => k_is)
    (case q_ne_Way => k_is)
    (case q_is_Way => k_is)
    (case q_ty_Way => k_is)
    (case q_tup_Way => k_is)
    (case q_lst_Way => k_is)
    (case q_int_Way => k_is)
    (case q_str_Way => k_is)
    (case q_mk_Way => k_is)
    (case q_kc_Way => k_is)
    (case q_na_begin => k_is)
    (case q_na_least => k_is)
    (case q_na_most => k_is)
    (case q_na_boxes => k_is)
    (case q_xBadPart_L => k_is)
    (case q_xBadPart_sa => k_is)
    (case q_xBadPart_ex => k_is)
    (case q_xBadPart_ty => k_is)
    (case q_xBadPart_kC => k_is)
    (case q_xBadPart_noA => k_is)
    (case q_xBadPart_hg => k_is)
    (case q_xBadPart_hk => k_is)
    (case q_xBadPart_hd => k_is)
    (case q_xBadPart_ha => k_is)
    (case q_xBadPart_hm => k_is)
    (case q_xBadPart_is => k_is)
    (case q_xBadPart_ss => k_is)
    (case q_xBadPart_w => k_is)
    (case q_xBadBox_L => k_is)
    (case q_xBadBox_sa => k_is)
    (case q_xBadBox_ex => k_is)
    (case q_xBadBox_ty => k_is)
    (case q_xBadBox_kC => k_is)
    (case q_xBadBox_noA => k_is)
    (case q_xBadBox_hg => k_is)
    (case q_xBadBox_hk => k_is)
    (case q_xBadBox_hd => k_is)
    (case q_xBadBox_ha => k_is)
    (case q_xBadBox_hm => k_is)
    (case q_xBadBox_is => k_is)
    (case q_xBadBox_ss => k_is)
    (case q_xBadBox_w => k_is)
    (case q_xb_p => k_is)
    (case q_xw_i => k_is)
    (case q_xw_t => k_is)
    (case q_xw_b => k_is)
