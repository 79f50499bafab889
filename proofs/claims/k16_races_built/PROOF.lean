import PyProof.Rows.All
import Wide.All
import OpenK.AllK
import Wide.FinOn
import PyProof.EqAt
import PyProof.EqKinds
import PyProof.TupleCall
import HandS.Base
import HandS.Call
import HandS.List
import HandS.Comp
import HandS.Ends
import HandS.Words
import HandS.WordsList
import HandS.Exc
import HandS.ExcInit
import HandS.ExcIs
import HandS.OwnEq
import HandS.IsInst
import HandS.ExcOwn
import HandS.ExcField
import HandS.WordsExc
import HandS.TryOnly
import HandS.TryMany
import HandS.CallSlots
import HandS.Wide
import HandS.Codes
import KE.KTupSum
import PyProof.ListRange
import KE.GoesEnum
import HandS.Iter
import HandS.Walk
import HandS.HotCalls
import KE.KEqNest
import HandS.Defaults
import HandS.TupAny
import HandS.Evl
import PySem.Challenge.RW_wholeline_k16_races_built
import HandS.Steps
import HandS.Deep
set_option Elab.async false
set_option maxRecDepth 100000
set_option maxHeartbeats 4000000
namespace PySem.W
open PySem PySem.Calls PyProof.Rows
section
variable {prog : Program} {w : World} {A : Around} {E : Value → Shared → Prop} {s : Shared} {K : Frag} {x C L f : Addr} {h₀ : Heap} {m : Str → Option Value} {ox : Obj} {od : Option Obj} {b tb : Value}
theorem objNe_K {Q : Fin → Shared → Prop} (hu : A.units < cLine) (X : K.In s.heap) (I : InstAt s.heap x ox C od)
    (hs : findIn K (.ref C) "__eq__" = some (some (.ref f))) (hf : isFn K (.ref f) = true)
    (h : wpAny (model prog w) A (call (.ref f) [.ref x, b]) (fun v s' => ∃ r, v = .bool r ∧ Q (.done (.ret (.bool (!r)))) s') E s) :
    wpAny (model prog w) A (Builtin.«object.__ne__» ⟨[.ref x, b], []⟩) Q E s := by
  obtain ⟨hp, g, d, tk, os⟩ := s
  unfold Builtin.«object.__ne__»
  repeat (first
    | with_reducible refine wpAny_cRoomFor hu ?_
    | (refine wpAny_bind (m := callSpecialIfBound? (.ref x) (Str.ofString "__eq__") [b])
        (ifBound_K X I hs hf (wpAny_mono h (fun r s' hr => by
          obtain ⟨b, rfl, hq⟩ := hr
          repeat (first | exact hq | exact wpAny_pure hq | exact wpAny_truthy_bool hq | (refine wpAny_bind (m := truthy (.bool _)) (wpAny_truthy_bool ?_)) | wp_step)) fun _ _ e => e)))
    | wp_step)
theorem cmpNe_K {Q : Value → Shared → Prop} (hu : A.units + 1 < cLine) (F : Fr h₀ L s.heap m) (X₀ : K.In h₀) (I : InstAt s.heap x ox C od) (hb : Looks (model prog w) s.heap (typeOf b) tb) (hn : notFirst K C tb = true)
    (hne : findIn K (.ref C) "__ne__" = some (some (.builtin "object.__ne__"))) (hm : mroIn K C (.type "object") = some true)
    (hs : findIn K (.ref C) "__eq__" = some (some (.ref f))) (hf : isFn K (.ref f) = true)
    (h : wpAny (model prog w) A.in1 (call (.ref f) [.ref x, b]) (fun v s' => ∃ r, v = .bool r ∧ Q (.bool (!r)) s') E s) : wpAny (model prog w) A (richCompare .NotEq (.ref x) b) Q E s := by
  have X := X₀.keeps F.keep
  have sub : Looks (model prog w) s.heap (isInstance (.ref x) (.type "object")) true := I.type.andThen (looks_mroIn X hm)
  have one : wpAny (model prog w) A (tryCompare (.ref x) "__ne__" b) (fun r s' => ∃ v, r = some v ∧ Q v s') E s := by
    unfold tryCompare
    refine wpAny_bind ?_
    simp only [callSpecialIfBound?, bindSpecialIfBound?]
    refine wpAny_holding (wpAny_bind (wpAny_bind (wpAny_bind (I.type.here ((looks_findIn X hne).here ?_)))))
    simp only [PySem.F.cmp_object.ne.bind]
    refine wpAny_bind (wpAny_askSetting (wpAny_ite ?_))
    have fin : wpAny (model prog w) A (call (.builtin "object.__ne__") ([.ref x] ++ [b]) >>= fun v => pure (some v)) (fun r s' => wpAny (model prog w) A (match r with
        | some .notImplemented | none => pure none
        | some v => pure (some v)) (fun r s' => ∃ v, r = some v ∧ Q v s') E s') E s := by
      refine wpAny_bind (wpAny_call (codeAny_call_builtin PySem.F.cmp_object.ne.plain PySem.F.cmpEntry_ne (check_slot PySem.F.cmpKind_ne PySem.F.cmpSplit_ne sub (PySem.F.cmpArgs_ne _ _)
        (objNe_K (A := A.in1) hu X I hs hf (wpAny_mono h (fun v s' hv => ?_) fun _ _ e => e)))))
      obtain ⟨r, rfl, hq⟩ := hv
      first | exact ⟨r, rfl, wpAny_pure (wpAny_pure ⟨_, rfl, hq⟩)⟩ | exact ⟨r, rfl, wpAny_pure ⟨_, rfl, hq⟩⟩
    split
    · repeat (first | exact fin | with_reducible refine wpAny_pure ?_ | with_reducible refine wpAny_bind ?_ | with_reducible refine wpAny_tryCatch ?_)
    · refine wpAny_tryCatch ?_
      repeat (first | exact fin | with_reducible refine wpAny_pure ?_ | with_reducible refine wpAny_bind ?_)
  unfold richCompare
  simp only [oneThing_ref]
  refine wpAny_holding (wpAny_bind (wpAny_cRoomFor (Nat.lt_of_succ_lt hu) ?_))
  refine wpAny_bind (I.type.here (wpAny_bind (hb.here ?_)))
  split
  · rename_i q
    have e : subIn K tb (.ref C) = some false := by
      rcases Bool.or_eq_true_iff.mp hn with e | e
      · rw [beq_iff_eq.mp e] at q; simp at q
      · exact beq_iff_eq.mp e
    refine wpAny_bind ((looks_subIn X e).here ?_)
    simp only [Bool.false_eq_true, if_false]
    refine wpAny_bind (wpAny_mono one (fun r s' z => ?_) fun _ _ e => e)
    obtain ⟨v, rfl, hq⟩ := z
    exact wpAny_pure hq
  · refine wpAny_bind (wpAny_pure ?_)
    simp only [Bool.false_eq_true, if_false]
    refine wpAny_bind (wpAny_mono one (fun r s' z => ?_) fun _ _ e => e)
    obtain ⟨v, rfl, hq⟩ := z
    exact wpAny_pure hq
end
end PySem.W

set_option Elab.async false
set_option maxRecDepth 100000
set_option maxHeartbeats 4000000
namespace L2
open PySem PySem.Spec PyProof.Rows
section
variable {X : Cx} {CX : CXT} {k : Nat} {f C : Addr} {fd : FuncData} {ps : List Str} {sp : Sp}
/-- the own method f, called at some frame below with room -/
theorem run_at {A : Around} {pins : List (Addr × Obj)} {σ : St} {H : Hp} {s : Shared} {Q : VK} {us : List Value} {vs : List V} (F : FnOk X.prog X.w X.K X.mg X.base CX k f fd ps sp) (hr : Room k A) (hA : A.frames = X.A.frames) (hb : Binds X.K fd ps []) (hx : Passes CX X E0)
    (I : Inv X pins σ H s) (r : Vals vs us) (h : sp vs H Q E0) : wpAny (model X.prog X.w) A (call (.ref f) us) (EP X pins σ Q) X.xe s := by
  have hl : us.length = ps.length := by rw [← r.length]; exact F.len _ _ _ _ h
  have e0 : Env0 X.prog X.w X.K X.mg X.base A X.stack s H := by
    have e := I.env0
    exact ⟨by rw [hA]; exact e.frames, e.mod, e.bs, e.bsz, e.funs, e.frf, e.hok, e.bare⟩
  refine wpAny_call (codeAny_mono (F.run A X.stack s H ⟨us, []⟩ us vs Q E0 hr e0 (by
    have := hb s us I.kIn (by simpa using hl)
    simpa using this) r h) fun r s' hq => ?_)
  cases r with
  | error e => exact hx pins σ H s e s' I hq
  | ok fl =>
    cases fl with
    | ret u => exact I.after hq
    | next => exact False.elim hq
    | brk => exact False.elim hq
    | cont => exact False.elim hq
/-- x == y, x an instance of the class at C, by its own ==; y anything whose type is known -/
def rEqO (K : PySem.W.Frag) (C : Addr) (sp : Sp) : R2 := fun x y H Q => ∃ a dx fs t, x = .ref a ∧ H a = some (.ins C dx fs) ∧ TyX K H y t ∧ PySem.W.notFirst K C t = true ∧ sp [x, y] H (fun v H' => ∃ b, v = .bl b ∧ Q (.bl b) H') E0
def rNeO (K : PySem.W.Frag) (C : Addr) (sp : Sp) : R2 := fun x y H Q => ∃ a dx fs t, x = .ref a ∧ H a = some (.ins C dx fs) ∧ TyX K H y t ∧ PySem.W.notFirst K C t = true ∧ sp [x, y] H (fun v H' => ∃ b, v = .bl b ∧ Q (.bl (!b)) H') E0
structure EqM (K : PySem.W.Frag) (C f : Addr) : Prop where
  eq : PySem.W.findIn K (.ref C) "__eq__" = some (some (.ref f))
  fn : PySem.W.isFn K (.ref f) = true
  ne : PySem.W.findIn K (.ref C) "__ne__" = some (some (.builtin "object.__ne__"))
  ob : PySem.W.mroIn K C (.type "object") = some true
theorem op_eqO (F : FnOk X.prog X.w X.K X.mg X.base CX k f fd ps sp) (M : EqM X.K C f) (hr : Room k X.A) (hb : Binds X.K fd ps []) (hx : Passes CX X E0) : OpR X (compareOp .Eq) (rEqO X.K C sp) := by
  intro pins s σ H x y v u Q I rx ry hq
  obtain ⟨a, dx, fs, t, rfl, ha, ty, hn, q⟩ := hq
  cases (show v = Value.ref a from rx)
  obtain ⟨P, Z, p, _⟩ := kit_of I ry ty
  obtain ⟨mA, J, _⟩ := ins_get I.hok ha
  obtain ⟨od, J, _⟩ := J.look
  obtain ⟨m, hF⟩ := I.fr
  show wpAny (model X.prog X.w) X.A (richCompare .Eq (.ref a) u) (EP X pins σ Q) X.xe s
  refine PySem.W.cmp_K (op := .Eq) (tb := t) hr.units0 hF I.ok.mod.kin J (Z.ty _ _ I.kIn p) hn M.eq M.fn ?_
  refine wpAny_mono (run_at (vs := [.ref a, y]) F hr rfl hb hx I (.cons rfl (.cons ry .nil)) q) (fun v' s' z => ?_) fun _ _ e => e
  obtain ⟨w', H', I', rv, b, rfl, q'⟩ := z
  cases rv
  exact ⟨.bl b, H', I', rfl, q'⟩
theorem op_neO (F : FnOk X.prog X.w X.K X.mg X.base CX k f fd ps sp) (M : EqM X.K C f) (hr : Room (k + 1) X.A) (hb : Binds X.K fd ps []) (hx : Passes CX X E0) : OpR X (compareOp .NotEq) (rNeO X.K C sp) := by
  intro pins s σ H x y v u Q I rx ry hq
  obtain ⟨a, dx, fs, t, rfl, ha, ty, hn, q⟩ := hq
  cases (show v = Value.ref a from rx)
  obtain ⟨P, Z, p, _⟩ := kit_of I ry ty
  obtain ⟨mA, J, _⟩ := ins_get I.hok ha
  obtain ⟨od, J, _⟩ := J.look
  obtain ⟨m, hF⟩ := I.fr
  show wpAny (model X.prog X.w) X.A (richCompare .NotEq (.ref a) u) (EP X pins σ Q) X.xe s
  refine PySem.W.cmpNe_K (tb := t) (by have := hr.units; omega) hF I.ok.mod.kin J (Z.ty _ _ I.kIn p) hn M.ne M.ob M.eq M.fn ?_
  refine wpAny_mono (run_at (vs := [.ref a, y]) F hr.in1 rfl hb hx I (.cons rfl (.cons ry .nil)) q) (fun v' s' z => ?_) fun _ _ e => e
  obtain ⟨w', H', I', rv, b, rfl, q'⟩ := z
  cases rv
  exact ⟨b, rfl, .bl (!b), H', I', rfl, q'⟩
/-- len(o), o an instance of the class at C with an own __len__ -/
def rLenO (C : Addr) (sp : Sp) : List V → Hp → VK → Prop := fun xs H Q => ∃ a dx fs, xs = [.ref a] ∧ H a = some (.ins C dx fs) ∧ sp [.ref a] H (fun v H' => ∃ n : Int, v = .int n ∧ (0 ≤ n ∧ n < 2 ^ 63) ∧ Q (.int n) H') E0
theorem call_lenO (F : FnOk X.prog X.w X.K X.mg X.base CX k f fd ps sp) (hs : PySem.W.findIn X.K (.ref C) "__len__" = some (some (.ref f))) (hf : PySem.W.isFn X.K (.ref f) = true) (hr : Room (k + 1) X.A) (hb : Binds X.K fd ps []) (hx : Passes CX X E0) :
    CallR X (.builtin "len") (rLenO C sp) := by
  intro pins s σ H xs us Q I r h
  obtain ⟨a, dx, fs, rfl, ha, q⟩ := h
  cases r with
  | cons rx rr =>
    rename_i u us'
    cases rr
    cases (show u = Value.ref a from rx)
    obtain ⟨mA, J, _⟩ := ins_get I.hok ha
    obtain ⟨od, J, _⟩ := J.look
    obtain ⟨m, hF⟩ := I.fr
    refine PySem.W.len_K hF I.ok.mod.kin J hs hf ?_
    refine wpAny_mono (run_at (vs := [.ref a]) F hr.in1 rfl hb hx I (.cons rfl .nil) q) (fun v' s' z => ?_) fun _ _ e => e
    obtain ⟨w', H', I', rv, n, rfl, hn, q'⟩ := z
    obtain ⟨t, rfl⟩ := (show ∃ t, v' = Value.int n t from rv)
    exact ⟨hn, .int n, H', I'.tok _, ⟨_, rfl⟩, q'⟩
end
end L2

set_option Elab.async false
set_option maxRecDepth 100000
set_option maxHeartbeats 4000000
namespace PySem.W
open PySem PySem.Spec PySem.Calls PyProof.Rows
section
variable {K : Frag} {C : Addr}
theorem findObj_dat {od : Option Obj} {name : Str} {a g : Value} (hc : (clsIn K C).isSome = true) (ha : findIn K (.ref C) name = some (some a)) (hg : specialIn K a "__get__" = some (some g)) (ht : takesIn K a = some true) :
    findObj K C od name = some (.bind g a) := by
  obtain ⟨cd, hc⟩ := Option.isSome_iff_exists.mp hc
  simp [findObj, hc, ha, hg, ht]
variable {prog : Program} {w : World} {A : Around} {E : Value → Shared → Prop} {s : Shared} {x D : Addr} {ox : Obj}
theorem kin_classD {od : Option Obj} {Q : Option Value → Shared → Prop} (T : L2.ExcC K D)
    (X : K.In s.heap) (I : InstAt s.heap x ox D od) (h : Q (some (.ref D)) { s with toks := s.toks + 1 }) : wpAny (model prog w) A (getAttr? (.ref x) "__class__") Q E s := by
  have hf : findObj K D od "__class__" = some (.bind (.builtin "getset_descriptor.__get__") (.builtin "object.__class__")) :=
    findObj_dat (by obtain ⟨cd, hc, _⟩ := any_some T.hd; rw [hc]; rfl) T.ha T.hn T.ht
  obtain ⟨hp, g, d, t, os⟩ := s
  have L0 := I.type (M := model prog w)
  have L1 := looks_findIn (M := model prog w) X T.hg
  have L2 := looks_findIn (M := model prog w) X T.hk
  have L3 := looks_find (M := model prog w) X I hf
  have sub : Looks (model prog w) hp (isInstance (.ref x) (.type "BaseException")) true := L0.andThen (looks_subIn X T.hs)
  have hx0 : (false && onTheHeap (Value.builtin "BaseException.__getattribute__")) = false := rfl
  have hx2 : (Value.builtin "BaseException.__getattribute__" == Value.builtin "object.__getattribute__") = false := by decide +kernel
  have hx1 : (onTheHeap (Value.ref D) && Value.builtin "BaseException.__getattribute__" == Value.builtin "object.__getattribute__") = false := by rw [hx2]; rfl
  unfold getAttr? getAttrBy? getAttrBy
  refine wpAny_bind (wpAny_mkText (wpAny_bind (wpAny_attempt (wpAny_holding (wpAny_bind (L0.at (wpAny_bind (L1.at ?_))))))))
  show wpAny _ _ (if (onTheHeap (Value.ref D) && Value.builtin "BaseException.__getattribute__" == Value.builtin "object.__getattribute__") = true then _ else _) _ _ _
  rw [hx1, if_neg Bool.false_ne_true]
  unfold getAttrByItsOwn hookBefore
  refine wpAny_bind ?_
  rw [if_pos (show onTheHeap (Value.ref D) = true from rfl)]
  refine L2.at ?_
  refine wpAny_bind (wpAny_attempt (wpAny_holding ?_))
  unfold callGetattribute
  rw [hx0, if_neg Bool.false_ne_true]
  unfold boundAndCalled
  rw [PySem.F.excAttr_ValueError.ga.bind (.ref x)]
  refine wpAny_bind (wpAny_pure ?_)
  show wpAny _ _ (call (.builtin "BaseException.__getattribute__") [.ref x, .str "__class__" t]) _ _ _
  refine wpAny_call (codeAny_call_builtin PySem.F.excAttr_ValueError.ga.plain PySem.F.entry_bexc_ga ?_)
  refine @check_slot (model prog w) _ _ ⟨hp, g, d, t + 1, os⟩ "BaseException.__getattribute__" "BaseException" "__getattribute__" (.ref x) [.str "__class__" t] [] _ (by decide +kernel) (by decide +kernel) sub (PySem.F.args_bexc_ga (.ref x) (.str "__class__" t)) ?_
  unfold Builtin.«object.__getattribute__»
  refine wpAny_bind (wpAny_of_eq (a := ((Value.ref x : Value), [Value.str "__class__" t])) (by first | rfl | (simp only [slotArgs]; rfl)) ?_)
  refine wpAny_bind (wpAny_pure (wpAny_bind (L0.at (wpAny_bind (L3.at ?_)))))
  show wpAny _ _ (holding [Value.builtin "object.__class__"] (call (.builtin "getset_descriptor.__get__") [.builtin "object.__class__", .ref x, .ref D]) >>= ret) _ _ _
  refine wpAny_bind (wpAny_holding (wpAny_call (class_get (s := ⟨hp, g, d, t + 1, os⟩) (ox := ox) (od := od) X I T.hm ?_)))
  refine wpAny_pure ?_
  show wpAny _ _ (handedOut (.ref D)) _ _ _
  rw [handedOut_of (v := .ref D) rfl]
  first
    | exact wpAny_pure (wpAny_pure h)
    | exact wpAny_pure h
    | exact wpAny_pure (wpAny_bind (wpAny_pure (wpAny_pure h)))
theorem kitx_excD (T : L2.ExcC K D) : KitX K (.ref x) (.ref D) (fun h => ∃ od, InstAt h x ox D od) where
  ty := fun _ _ _ I => by
    obtain ⟨_, I⟩ := I
    exact I.type
  it := fun M h X _ => by
    obtain ⟨cdD, hcD, _⟩ := any_some T.hd
    unfold clsIn at hcD
    split at hcD
    · rename_i c' d' cd' sl' ho
      intro A' Q' E' s' k q
      unfold isType loadHead
      exact wpAny_bind (wpAny_loadPart (k _ _ (X _ _ ho)) (wpAny_pure q))
    · cases hcD
  ne := fun h tp dd its n sl X htp => by
    obtain ⟨cdD, hcD, _⟩ := any_some T.hd
    refine Bool.eq_false_iff.mpr fun q => ?_
    have e : D = tp := Value.ref.inj (beq_iff_eq.mp q)
    subst e
    unfold clsIn at hcD
    split at hcD
    · rename_i c' d' cd' sl' ho
      have z := (X _ _ ho).symm.trans htp
      cases z
    · cases hcD
  ca := fun X I k => by
    obtain ⟨_, I⟩ := I
    exact kin_classD T X I k
end
end PySem.W
namespace L2
open PySem PySem.Spec PyProof.Rows
section
variable {X : Cx}
/-- isinstance(e, c), e the exception that the suite holds, with a dict or without -/
theorem call_isED {a D : Addr} {d : Option Addr} {oe : Obj} {pn : List (Addr × Obj)} (C : ExcC X.K D) (hz : Zc (.ref D) d oe) (hf : ∃ vs, oe.data = .fields vs) (hd : ∀ (pins : List (Addr × Obj)) (σ : St) (H : Hp) (s : Shared), Inv (X.suite a ((a, oe) :: pn)) pins σ H s → ∀ dd, d = some dd → ∃ od, s.heap.get? dd = some od) :
    CallR (X.suite a ((a, oe) :: pn)) (.builtin "isinstance") (rIsE X.K D a) := by
  intro pins s σ H xs us Q I r h
  obtain ⟨c, cv, b, rfl, hcv, e, q⟩ := h
  cases r with
  | cons rx rr =>
    cases rr with
    | cons rt rr =>
      cases rr
      cases rx
      have ec := hcv _ rt
      subst ec
      obtain ⟨hget, _⟩ := I.pin (a, oe) (List.mem_append.mpr (.inl List.mem_cons_self))
      obtain ⟨vs, hv⟩ := hf
      have J : ∃ od, PySem.W.InstAt s.heap a oe D od := by
        have hd' := hd pins σ H s I
        obtain ⟨oc, od, oda, osl⟩ := oe
        obtain ⟨h1, h2⟩ := hz
        dsimp only at h1 h2 hv
        subst h1 h2 hv
        cases od with
        | none => exact ⟨none, hget, rfl, rfl, trivial⟩
        | some dd =>
          obtain ⟨o, ho⟩ := hd' dd rfl
          exact ⟨some o, hget, rfl, rfl, ho⟩
      exact PySem.W.kia_one (PySem.W.kitx_excD C) I.kIn J e (fun z => nomatch z) fun tk => ⟨.bl b, H, I.kept (t' := tk) fun _ _ z => z, rfl, q⟩
/-- the same where the dict is tracked: the reading asks it -/
def rIsED (K : PySem.W.Frag) (D a : Addr) (cls : Value) (d : Option Addr) : List V → Hp → VK → Prop := fun xs H Q => cls = .ref D ∧ (∀ dd, d = some dd → ∃ fs, H dd = some (.xd fs)) ∧ ∃ (c : V) (cv : Value) (b : Bool), xs = [.ref a, c] ∧ (∀ u, RelV c u → u = cv) ∧ PySem.W.kitOne K (.ref D) cv = some b ∧ Q (.bl b) H
theorem call_isEX {a D : Addr} {cls : Value} {d : Option Addr} {oe : Obj} {pn : List (Addr × Obj)} (C : ExcC X.K D) (hz : Zc cls d oe) (hf : ∃ vs, oe.data = .fields vs) : CallR (X.suite a ((a, oe) :: pn)) (.builtin "isinstance") (rIsED X.K D a cls d) := by
  intro pins s σ H xs us Q I r h
  obtain ⟨ec0, hdd, c, cv, b, rfl, hcv, e, q⟩ := h
  subst ec0
  cases r with
  | cons rx rr =>
    cases rr with
    | cons rt rr =>
      cases rr
      cases rx
      have ec := hcv _ rt
      subst ec
      obtain ⟨hget, _⟩ := I.pin (a, oe) (List.mem_append.mpr (.inl List.mem_cons_self))
      obtain ⟨vs, hv⟩ := hf
      have J : ∃ od, PySem.W.InstAt s.heap a oe D od := by
        obtain ⟨oc, od, oda, osl⟩ := oe
        obtain ⟨h1, h2⟩ := hz
        dsimp only at h1 h2 hv
        subst h1 h2 hv
        cases od with
        | none => exact ⟨none, hget, rfl, rfl, trivial⟩
        | some dd =>
          obtain ⟨fs, hfs⟩ := hdd dd rfl
          obtain ⟨mA, hns, _⟩ := (show ObjOk X.prog X.w H s.heap dd (.xd fs) from I.hok dd _ hfs)
          obtain ⟨od, ho, _⟩ := lookIn_ns hns
          exact ⟨some od, hget, rfl, rfl, ho⟩
      exact PySem.W.kia_one (PySem.W.kitx_excD C) I.kIn J e (fun z => nomatch z) fun tk => ⟨.bl b, H, I.kept (t' := tk) fun _ _ z => z, rfl, q⟩
end
section
variable {X : Cx} {CX : CXT} {k : Nat} {f C : Addr} {fd : FuncData} {ps : List Str} {sp : Sp} {dvs : List V} {ds : List Value} {E : St → XK} {x m : Str} {p pos apos : Pos} {e o : Expr} {es : List Expr} {ta : TE} {t : TA}
/-- C(e, ..) where what is raised is wished for at the slots as they stand -/
def tMakeS (C : Addr) (sp : Sp) (dvs : List V) (E : St → XK) (t : TA) : TE := fun σ H Q => t σ H fun vs H1 => ∀ x dx, H1 x = none → H1 dx = none → dx ≠ x →
  sp (.ref x :: (vs ++ dvs)) (upd (upd H1 dx (.own x)) x (.ins C dx [])) (fun v H2 => v = .non ∧ Q (.ref x) H2) (fun cls d H2 => E σ cls d H2)
theorem run_makeS {pins : List (Addr × Obj)} {σ : St} {H : Hp} {s : Shared} {Q : VK} {us : List Value} {vs : List V} (M : Mk X.K C f) (F : FnOk X.prog X.w X.K X.mg X.base CX k f fd ps sp) (hr : Room (k + 1) X.A) (hb : Binds X.K fd ps ds) (hd : Vals dvs ds)
    (hx : PassesAt CX X σ (E σ)) (I : Inv X pins σ H s) (r : Vals vs us)
    (h : ∀ x dx, H x = none → H dx = none → dx ≠ x → sp (.ref x :: (vs ++ dvs)) (upd (upd H dx (.own x)) x (.ins C dx [])) (fun v H2 => v = .non ∧ Q (.ref x) H2) (E σ)) :
    wpAny (model X.prog X.w) X.A (call (.ref C) us) (EP X pins σ Q) X.xe s := by
  have hq := h (s.heap.objs.size + 1) s.heap.objs.size (I.hok.fresh (Nat.le_succ _)) (I.hok.fresh (Nat.le_refl _)) (Nat.ne_of_lt (Nat.lt_succ_self _))
  have I2 := Inv.made (C := C) I
  have r2 : Vals (V.ref (s.heap.objs.size + 1) :: (vs ++ dvs)) (Value.ref (s.heap.objs.size + 1) :: (us ++ ds)) := .cons rfl (r.append hd)
  have hl : (Value.ref (s.heap.objs.size + 1) :: us ++ ds).length = ps.length := by
    have e := r2.length
    rw [F.len _ _ _ _ hq] at e
    exact e.symm
  refine wpAny_call (make_map (f := f) I.kIn M.makes M.init (beq_iff_eq.mp M.fn) (codeAny_mono (F.run _ X.stack _ _ ⟨Value.ref (s.heap.objs.size + 1) :: us, []⟩ (Value.ref (s.heap.objs.size + 1) :: (us ++ ds)) _ _ (E σ) (hr.make C us [])
    (I2.env0.make C us []) (hb _ (Value.ref (s.heap.objs.size + 1) :: us) I2.kIn hl) r2 hq) fun r s' hq' => ?_))
  cases r with
  | error e => exact hx pins _ _ e s' I2 hq'
  | ok fl =>
    cases fl with
    | ret u =>
      obtain ⟨v, H', I3, rv, ev, q3⟩ := I2.after hq'
      subst ev
      exact ⟨rv, ⟨V.ref (s.heap.objs.size + 1), H', I3, rfl, q3⟩⟩
    | next => exact False.elim hq'
    | brk => exact False.elim hq'
    | cont => exact False.elim hq'
theorem pe_makeS (M : Mk X.K C f) (F : FnOk X.prog X.w X.K X.mg X.base CX k f fd ps sp) (hr : Room (k + 1) X.A) (hg : Gl X x) (hm : X.mg x = some (.ref C)) (hb : Binds X.K fd ps ds) (hd : Vals dvs ds) (hx : ∀ σ, PassesAt CX X σ (E σ))
    (ha : PA X (e :: es) t) (hdb : (x == ("__debug__" : Str)) = false := by decide) (he : starEach (e :: es) X.env = (false, eval e X.env) :: starEach es X.env := by rfl) (hpl : (backTo pos (starEach es X.env)).any (·.1) = false := by rfl) :
    PE X (.Call (.Name x p) (e :: es) [] pos) (tMakeS C sp dvs E t) := by
  refine ⟨fun pins s σ H Q I h => ?_⟩
  refine wpAny_Call_Name_kw (ld_glob I hg hm ?_ hdb)
  refine PySem.W.callWith_K (h₀ := X.base) I.ok.mod.kin M.kp (thn (ha.run pos pins s σ H _ I h) fun us s1 ⟨vs, H1, I1, r, q⟩ => ⟨I1.kIn, ?_⟩) he hpl
  exact run_makeS M F hr hb hd (hx σ) I1 r q
/-- o.m(e, ..) | o.m() likewise -/
def tMethSD (C : Addr) (m : Str) (sp : Sp) (dvs : List V) (E : St → XK) (ta : TE) (t : TA) : TE := fun σ H Q => ta σ H fun x H1 => ∃ a dx fs, x = .ref a ∧ H1 a = some (.ins C dx fs) ∧ fs.lookup m = none ∧
  t σ H1 fun vs H2 => sp (x :: (vs ++ dvs)) H2 Q (E σ)
theorem pe_methSD {pl : Sem Bool} (he : PE X o ta) (c : Cls X.K C) (hm : Meth X.K C m f) (F : FnOk X.prog X.w X.K X.mg X.base CX k f fd ps sp) (hr : Room k X.A) (hb : Binds X.K fd ps ds) (hd : Vals dvs ds) (hx : ∀ σ, PassesAt CX X σ (E σ)) (ha : PA X (e :: es) t)
    (hst : starEach (e :: es) X.env = (false, eval e X.env) :: starEach es X.env := by rfl) (hpl : (backTo pos (starEach es X.env)).any (·.1) = false := by rfl)
    (ht : eval (.Call (.Attribute o m apos) (e :: es) [] pos) X.env = (do
      let ov ← eval o X.env
      standAt apos.atName
      let (f, first) ← holding [ov] (getMethod ov m pl)
      callWith pos f first (backTo pos (starEach (e :: es) X.env)) (backToKw pos (keywordEach [] X.env))) := by rfl) :
    PE X (.Call (.Attribute o m apos) (e :: es) [] pos) (tMethSD C m sp dvs E ta t) := by
  refine ⟨fun pins s σ H Q I h => ?_⟩
  refine PySem.W.methodCall_KW (pl := pl) (thn (he.run pins s σ H _ I h) fun u s1 ⟨x, H1, I1, rx, a, dx, fs, ex, ea, l, q⟩ => ?_) ht
  subst ex
  obtain rfl : u = Value.ref a := rx
  refine getmeth_ok I1 ea c hm l ?_
  refine PySem.W.callWith_K (first := [.ref a]) (h₀ := X.base) I.ok.mod.kin hm.kp (thn (ha.run pos pins s1 σ H1 _ I1 q) fun us s2 ⟨vs, H2, I2, r, q2⟩ => ⟨I2.kIn, ?_⟩) hst hpl
  exact run_fnSD (us := .ref a :: us) (vs := .ref a :: vs) F hr hb hd (hx σ) I2 (.cons rfl r) q2
theorem pe_methSD0 {pl : Sem Bool} (he : PE X o ta) (c : Cls X.K C) (hm : Meth X.K C m f) (F : FnOk X.prog X.w X.K X.mg X.base CX k f fd ps sp) (hr : Room k X.A) (hb : Binds X.K fd ps ds) (hd : Vals dvs ds) (hx : ∀ σ, PassesAt CX X σ (E σ))
    (ht : eval (.Call (.Attribute o m apos) [] [] pos) X.env = (do
      let ov ← eval o X.env
      standAt apos.atName
      let (f, first) ← holding [ov] (getMethod ov m pl)
      callWith pos f first (backTo pos (starEach [] X.env)) (backToKw pos (keywordEach [] X.env))) := by rfl) :
    PE X (.Call (.Attribute o m apos) [] [] pos) (tMethSD C m sp dvs E ta tNil) := by
  refine ⟨fun pins s σ H Q I h => ?_⟩
  refine PySem.W.methodCall_KW (pl := pl) (thn (he.run pins s σ H _ I h) fun u s1 ⟨x, H1, I1, rx, a, dx, fs, ex, ea, l, q⟩ => ?_) ht
  subst ex
  obtain rfl : u = Value.ref a := rx
  refine getmeth_ok I1 ea c hm l ?_
  exact PySem.W.callWith_K0 (first := [.ref a]) I1.kIn hm.kp (run_fnSD (us := [.ref a]) (vs := [.ref a]) F hr hb hd (hx σ) I1 (.cons rfl .nil) q)
end

/-! ### own errors with one field -/
/-- what __init__ of such an error does: self.f = v -/
def spXI (C : Addr) (f : Str) : Sp := fun vs H Q _ => ∃ (a : Addr) (y : V), vs = [.ref a, y] ∧ H a = some (exo a C none) ∧ ∀ dx, H dx = none → dx ≠ a → Q .non (upd (upd H dx (exd dx [(f, y)])) a (exo a C (some dx)))
/-- all that is asked of the class x of errors at C, whose field is f -/
structure XCls (P : Program) (w : World) (K : PySem.W.Frag) (mg : Str → Option Value) (base : Heap) (x f : Str) (C : Addr) : Prop where
  ox : OexC K C
  gC : mg x = some (.ref C)
  noA : PySem.W.findIn K (.ref C) f = some none
  ec : ExcC K C
  ini : ∃ (fI : Addr) (fd : FuncData), PySem.W.findIn K (.ref C) "__init__" = some (some (.ref fI)) ∧ PySem.W.typeIn K (.ref fI) = some (.type "function") ∧ FnOk P w K mg base CX0 1 fI fd ["self", f] (spXI C f) ∧ Binds K fd ["self", f] []
theorem XCls.xf {P : Program} {w : World} {K : PySem.W.Frag} {mg : Str → Option Value} {base : Heap} {x f : Str} {C : Addr} (T : XCls P w K mg base x f C) : XfC K C := ⟨T.ec.hg, T.ec.hk, T.ec.hs, T.ec.hd⟩
section
variable {X : Cx} {C : Addr} {x f : Str} {e : Expr} {te : TE} {p pos pos2 : Pos}
theorem pmk_X (T : XCls X.prog X.w X.K X.mg X.base x f C) (hr : Room 2 X.A) (he : PE X e te) (hg : Gl X x) (hdb : (x == ("__debug__" : Str)) = false := by decide)
    (hs : starEach [e] X.env = (false, eval e X.env) :: starEach [] X.env := by rfl) (hpl : (backTo pos (starEach [] X.env)).any (·.1) = false := by rfl) :
    PMk X (.Call (.Name x p) [e] [] pos) (tMkO C (spXI C f) [] (tCons te tNil)) := by
  obtain ⟨fI, fd, i1, i2, F, b⟩ := T.ini
  exact pmk_oex (dvs := []) (ds := []) T.ox i1 i2 F hr b .nil pass0 hg T.gC (pa_cons he pa_nil hs) hdb hs hpl
/-- what is left to be shown behind the argument y -/
theorem mkX_fin {H1 : Hp} {y : V} {Q : XK} (h : ∀ d, H1 d = none → Q (.ref C) (some d) (upd H1 d (.xd [(f, y)]))) :
    [y].length ≤ 1000 ∧ ∀ a, H1 a = none → spXI C f (.ref a :: ([y] ++ [])) (upd H1 a (exo a C none))
      (fun v H2 => v = .non ∧ ∃ (d : Addr) (fs : List (Str × V)), H2 a = some (exo a C (some d)) ∧ H2 d = some (exd d fs) ∧ H1 d = none ∧ Q (.ref C) (some d) (upd (del H2 a) d (.xd fs))) (fun _ _ _ => False) := by
  refine ⟨by show 1 ≤ 1000; decide, fun a ha => ⟨a, y, rfl, upd_same, fun dx hdx hne => ⟨rfl, dx, [(f, y)], upd_same, ?_, ?_, ?_⟩⟩⟩
  · rw [upd_ne hne, upd_same]
  · rw [upd_ne hne] at hdx
    exact hdx
  · have hdx' : H1 dx = none := by
      rw [upd_ne hne] at hdx
      exact hdx
    have e : upd (del (upd (upd (upd H1 a (exo a C none)) dx (exd dx [(f, y)])) a (exo a C (some dx))) a) dx (.xd [(f, y)]) = upd H1 dx (.xd [(f, y)]) := by
      funext b
      by_cases hb : b = dx
      · rw [hb, upd_same, upd_same]
      · rw [upd_ne hb, upd_ne hb]
        by_cases hba : b = a
        · rw [hba, del_same, ha]
        · rw [del_ne hba, upd_ne hba, upd_ne hb, upd_ne hba]
    rw [e]
    exact h dx hdx'
end
end L2

set_option Elab.async false
set_option maxRecDepth 100000
set_option maxHeartbeats 4000000
namespace L2
open PySem PySem.Spec PyProof.Rows
section
variable (P : Program) (w : World) (K : PySem.W.Frag) (mg : Str → Option Value) (base : Heap)
/-- a def of the top, as the text has it -/
structure DefAt (x : Str) (st : Stmt) (ps : List Str) : Prop where
  ex : ∃ (f : Addr) (fd : FuncData), Fun K x x st f fd ∧ mg x = some (.ref f) ∧ Binds K fd ps []
/-- a def of the top that keeps its promise -/
structure Own (CX : CXT) (x : Str) (k : Nat) (ps : List Str) (sp : Sp) : Prop where
  ex : ∃ (f : Addr) (fd : FuncData), FnOk P w K mg base CX k f fd ps sp ∧ mg x = some (.ref f) ∧ PySem.W.keepIn K (.ref f) = true ∧ Binds K fd ps []
/-- a method of the class at C, as the text has it; one that keeps its promise -/
structure MethAt (C : Addr) (m qual : Str) (st : Stmt) (ps : List Str) : Prop where
  ex : ∃ (f : Addr) (fd : FuncData), Fun K m qual st f fd ∧ PySem.W.findIn K (.ref C) m = some (some (.ref f)) ∧ PySem.W.isFn K (.ref f) = true ∧ Binds K fd ps []
structure OwnM (CX : CXT) (C : Addr) (m : Str) (k : Nat) (ps : List Str) (sp : Sp) : Prop where
  ex : ∃ (f : Addr) (fd : FuncData), FnOk P w K mg base CX k f fd ps sp ∧ Meth K C m f ∧ PySem.W.isFn K (.ref f) = true ∧ Binds K fd ps []
/-- a class of the top with an own __init__ that keeps its promise -/
structure OwnC (CX : CXT) (x : Str) (C : Addr) (k : Nat) (ps : List Str) (sp : Sp) : Prop where
  ex : ∃ (f : Addr) (fd : FuncData), FnOk P w K mg base CX k f fd ps sp ∧ Mk K C f ∧ mg x = some (.ref C) ∧ Binds K fd ps []
end
section
variable {P : Program} {w : World} {K : PySem.W.Frag} {mg : Str → Option Value} {base : Heap} {CX : CXT} {x m qual : Str} {k : Nat} {ps : List Str} {sp : Sp} {st : Stmt} {C : Addr}
theorem DefAt.own (D : DefAt K mg x st ps) (h : ∀ f fd, Fun K x x st f fd → FnOk P w K mg base CX k f fd ps sp) : Own P w K mg base CX x k ps sp := by
  obtain ⟨f, fd, F, hm, hb⟩ := D.ex
  exact ⟨f, fd, h f fd F, hm, F.kp, hb⟩
theorem MethAt.own (D : MethAt K C m qual st ps) (h : ∀ f fd, Fun K m qual st f fd → FnOk P w K mg base CX k f fd ps sp) : OwnM P w K mg base CX C m k ps sp := by
  obtain ⟨f, fd, F, hm, hi, hb⟩ := D.ex
  exact ⟨f, fd, h f fd F, ⟨hm, hi, F.kp⟩, hi, hb⟩
theorem MethAt.cls (D : MethAt K C "__init__" qual st ps) (h : ∀ f fd, Fun K "__init__" qual st f fd → FnOk P w K mg base CX k f fd ps sp) (m1 : PySem.W.makesIn K C = true) (m2 : PySem.W.keepIn K (.ref C) = true) (m3 : mg x = some (.ref C)) :
    OwnC P w K mg base CX x C k ps sp := by
  obtain ⟨f, fd, F, hm, hi, hb⟩ := D.ex
  exact ⟨f, fd, h f fd F, ⟨m1, hm, hi, m2⟩, m3, hb⟩
end
section
variable {X : Cx} {CX : CXT} {x m : Str} {k : Nat} {ps : List Str} {sp : Sp} {e o : Expr} {es : List Expr} {t : TA} {ta : TE} {p pos apos : Pos} {C : Addr}
theorem pe_own (O : Own X.prog X.w X.K X.mg X.base CX x k ps sp) (hr : Room k X.A) (hx : Passes CX X E0) (ha : PA X (e :: es) t) (hg : Gl X x := by rfl) (hdb : (x == ("__debug__" : Str)) = false := by decide)
    (he : starEach (e :: es) X.env = (false, eval e X.env) :: starEach es X.env := by rfl) (hpl : (backTo pos (starEach es X.env)).any (·.1) = false := by rfl) : PE X (.Call (.Name x p) (e :: es) [] pos) (tCall sp [] E0 t) := by
  obtain ⟨f, fd, F, hm, hk, hb⟩ := O.ex
  exact pe_call F hr hg hm hk hb .nil hx ha hdb he hpl
theorem pe_own0 (O : Own X.prog X.w X.K X.mg X.base CX x k ps sp) (hr : Room k X.A) (hx : Passes CX X E0) (hg : Gl X x := by rfl) (hdb : (x == ("__debug__" : Str)) = false := by decide) : PE X (.Call (.Name x p) [] [] pos) (tCall sp [] E0 tNil) := by
  obtain ⟨f, fd, F, hm, hk, hb⟩ := O.ex
  exact pe_call0 F hr hg hm hk hb .nil hx hdb
/-- one that may raise; W is wished for what it raises -/
theorem pe_ownS {W : WX} (O : Own X.prog X.w X.K X.mg X.base (L2.CX X.prog X.w) x k ps sp) (hr : Room k X.A) (tk : Takes X W) (ha : PA X (e :: es) t) (hg : Gl X x := by rfl) (hdb : (x == ("__debug__" : Str)) = false := by decide)
    (he : starEach (e :: es) X.env = (false, eval e X.env) :: starEach es X.env := by rfl) (hpl : (backTo pos (starEach es X.env)).any (·.1) = false := by rfl) : PE X (.Call (.Name x p) (e :: es) [] pos) (tCallS sp (WE W) t) := by
  obtain ⟨f, fd, F, hm, hk, hb⟩ := O.ex
  exact pe_callS F hr hg hm hk hb (fun σ => passAt tk σ) ha hdb he hpl
theorem pe_new (O : OwnC X.prog X.w X.K X.mg X.base CX x C k ps sp) (hr : Room (k + 1) X.A) (hx : Passes CX X E0) (ha : PA X (e :: es) t) (hg : Gl X x := by rfl) (hdb : (x == ("__debug__" : Str)) = false := by decide)
    (he : starEach (e :: es) X.env = (false, eval e X.env) :: starEach es X.env := by rfl) (hpl : (backTo pos (starEach es X.env)).any (·.1) = false := by rfl) : PE X (.Call (.Name x p) (e :: es) [] pos) (tMake C sp [] E0 t) := by
  obtain ⟨f, fd, F, M, hm, hb⟩ := O.ex
  exact pe_make M F hr hg hm hb .nil hx ha hdb he hpl
theorem pe_newS {W : WX} (O : OwnC X.prog X.w X.K X.mg X.base (L2.CX X.prog X.w) x C k ps sp) (hr : Room (k + 1) X.A) (tk : Takes X W) (ha : PA X (e :: es) t) (hg : Gl X x := by rfl) (hdb : (x == ("__debug__" : Str)) = false := by decide)
    (he : starEach (e :: es) X.env = (false, eval e X.env) :: starEach es X.env := by rfl) (hpl : (backTo pos (starEach es X.env)).any (·.1) = false := by rfl) : PE X (.Call (.Name x p) (e :: es) [] pos) (tMakeS C sp [] (WE W) t) := by
  obtain ⟨f, fd, F, M, hm, hb⟩ := O.ex
  exact pe_makeS M F hr hg hm hb .nil (fun σ => passAt tk σ) ha hdb he hpl
theorem pe_gint {n : Int} (hm : ∃ t, X.mg x = some (.int n t)) (hg : Gl X x := by rfl) (hd : (x == ("__debug__" : Str)) = false := by decide) : PE X (.Name x pos) (tC (.int n)) := by
  obtain ⟨t, hm⟩ := hm
  exact pe_glob hg hm ⟨t, rfl⟩ hd
theorem pe_gcls (hm : X.mg x = some (.ref C)) (hg : Gl X x := by rfl) (hd : (x == ("__debug__" : Str)) = false := by decide) : PE X (.Name x pos) (tC (.ref C)) := pe_glob hg hm rfl hd
end
/-! ### ==, != by own methods, len -/
section
variable {X : Cx} {CX : CXT} {k : Nat} {C : Addr} {ps : List Str} {sp : Sp}
structure NeM (K : PySem.W.Frag) (C : Addr) : Prop where
  ne : PySem.W.findIn K (.ref C) "__ne__" = some (some (.builtin "object.__ne__"))
  ob : PySem.W.mroIn K C (.type "object") = some true
theorem eqO (O : OwnM X.prog X.w X.K X.mg X.base CX C "__eq__" k ps sp) (N : NeM X.K C) (hr : Room k X.A) (hx : Passes CX X E0) : OpR X (compareOp .Eq) (rEqO X.K C sp) := by
  obtain ⟨f, fd, F, M, hi, hb⟩ := O.ex
  exact op_eqO F ⟨M.at_, hi, N.ne, N.ob⟩ hr hb hx
theorem neO (O : OwnM X.prog X.w X.K X.mg X.base CX C "__eq__" k ps sp) (N : NeM X.K C) (hr : Room (k + 1) X.A) (hx : Passes CX X E0) : OpR X (compareOp .NotEq) (rNeO X.K C sp) := by
  obtain ⟨f, fd, F, M, hi, hb⟩ := O.ex
  exact op_neO F ⟨M.at_, hi, N.ne, N.ob⟩ hr hb hx
theorem lenO (O : OwnM X.prog X.w X.K X.mg X.base CX C "__len__" k ps sp) (hr : Room (k + 1) X.A) (hx : Passes CX X E0) : CallR X (.builtin "len") (rLenO C sp) := by
  obtain ⟨f, fd, F, M, hi, hb⟩ := O.ex
  exact call_lenO F M.at_ hi hr hb hx
end
end L2

set_option Elab.async false
set_option maxRecDepth 100000
set_option maxHeartbeats 4000000
/-! kinds of plain values; their isinstance -/
namespace L2
open PySem PySem.Spec PyProof.Rows
inductive Knd | int | bool | none | str | list | tuple
  deriving DecidableEq
def Knd.name : Knd → String
  | .int => "int" | .bool => "bool" | .none => "NoneType" | .str => "str" | .list => "list" | .tuple => "tuple"
def KndOf (H : Hp) (v : V) : Knd → Prop
  | .int => ∃ n, v = .int n
  | .bool => ∃ b, v = .bl b
  | .none => v = .non
  | .str => ∃ s, v = .str s
  | .list => ∃ a xs, v = .ref a ∧ H a = some (.lst xs)
  | .tuple => ∃ a xs, v = .ref a ∧ H a = some (.tup xs)
def Knd.isInt : Knd → Bool | .int => true | .bool => true | _ => false
def Knd.isBool : Knd → Bool | .bool => true | _ => false
def Knd.isSeq : Knd → Bool | .list => true | .tuple => true | _ => false
def Knd.isTup : Knd → Bool | .tuple => true | _ => false
def Knd.isList : Knd → Bool | .list => true | _ => false
def Knd.isStr : Knd → Bool | .str => true | _ => false
section
variable {K : PySem.W.Frag} {H : Hp} {v : V} {k : Knd}
theorem knd_ty (h : KndOf H v k) : TyX K H v (.type k.name) := by
  cases k with
  | int => obtain ⟨n, rfl⟩ := h; exact .base (.int n)
  | bool => obtain ⟨n, rfl⟩ := h; exact .base (.bl n)
  | none => cases h; exact .base .non
  | str => obtain ⟨n, rfl⟩ := h; exact .base (.str n)
  | list => obtain ⟨a, xs, rfl, e⟩ := h; exact .base (.lst e)
  | tuple => obtain ⟨a, xs, rfl, e⟩ := h; exact .base (.tup e)
theorem knd_int : PySem.W.kitOne K (.type k.name) (.type "int") = some k.isInt := by cases k <;> exact kit_ty (by decide +kernel)
theorem knd_bool : PySem.W.kitOne K (.type k.name) (.type "bool") = some k.isBool := by cases k <;> exact kit_ty (by decide +kernel)
theorem knd_tup : PySem.W.kitOne K (.type k.name) (.type "tuple") = some k.isTup := by cases k <;> exact kit_ty (by decide +kernel)
theorem knd_list : PySem.W.kitOne K (.type k.name) (.type "list") = some k.isList := by cases k <;> exact kit_ty (by decide +kernel)
theorem knd_str : PySem.W.kitOne K (.type k.name) (.type "str") = some k.isStr := by cases k <;> exact kit_ty (by decide +kernel)
theorem knd_seq : PySem.W.kitAny K (.type k.name) [.type "list", .type "tuple"] = some k.isSeq := by
  cases k
  case list => exact kitAny_cons knd_list (by intro h; cases h) (fun _ => rfl)
  case tuple => exact kitAny_cons knd_list (fun _ => kitAny_cons knd_tup (by intro h; cases h) (fun _ => rfl)) (by intro h; cases h)
  all_goals exact kitAny_cons knd_list (fun _ => kitAny_cons knd_tup (fun _ => kitAny_nil) (by intro h; cases h)) (by intro h; cases h)
theorem KndOf.ext {H' : Hp} (h : KndOf H v k) (e : Ext H H') : KndOf H' v k := by
  cases k with
  | list => obtain ⟨a, xs, r, q⟩ := h; exact ⟨a, xs, r, e _ _ q⟩
  | tuple => obtain ⟨a, xs, r, q⟩ := h; exact ⟨a, xs, r, e _ _ q⟩
  | _ => exact h
theorem ki (n : Int) : KndOf H (.int n) .int := ⟨n, rfl⟩
theorem kb (n : Bool) : KndOf H (.bl n) .bool := ⟨n, rfl⟩
theorem kn : KndOf H .non .none := rfl
theorem ks (n : Str) : KndOf H (.str n) .str := ⟨n, rfl⟩
end
/-- a value that is an int from a to b -/
def betw (v : V) (a b : Int) : Bool := match v with
  | .int n => decide (a ≤ n) && decide (n ≤ b)
  | _ => false
theorem betw_int {n a b : Int} : betw (.int n) a b = (decide (a ≤ n) && decide (n ≤ b)) := rfl
theorem betw_not {H : Hp} {v : V} {k : Knd} {a b : Int} (h : KndOf H v k) (hk : (k.isInt && !k.isBool) = false) : betw v a b = false := by
  cases k with
  | int => cases hk
  | bool => obtain ⟨n, rfl⟩ := h; rfl
  | none => cases h; rfl
  | str => obtain ⟨n, rfl⟩ := h; rfl
  | list => obtain ⟨n, xs, rfl, _⟩ := h; rfl
  | tuple => obtain ⟨n, xs, rfl, _⟩ := h; rfl
theorem knd_yes {k : Knd} (h : (k.isInt && !k.isBool) = true) : k = .int := by cases k <;> first | rfl | cases h
/-! ### isinstance, read -/
section
variable {K : PySem.W.Frag} {σ : St} {H : Hp} {v : V} {k : Knd} {Q : VK} {te : TE}
theorem v_isI (hk : KndOf H v k) {b : Bool} {c : String} (e : PySem.W.kitOne K (.type k.name) (.type c) = some b) (q : Q (.bl b) H) : rIsi K [v, .ty c] H Q :=
  ⟨v, .ty c, .type k.name, .type c, b, rfl, .ty c, knd_ty hk, e, q⟩
end
end L2

set_option Elab.async false
set_option maxRecDepth 100000
set_option maxHeartbeats 4000000
namespace L2
open PySem PySem.Spec PyProof.Rows
section
variable {K : PySem.W.Frag} {C : Addr}
theorem no_ref (l : List String) : (l.map Value.type).contains (Value.ref C) = false := by
  induction l with
  | nil => rfl
  | cons a l ih =>
    rw [List.map_cons, List.contains_cons, ih]
    rfl
theorem sub_ty_ref {T : String} (h : (fastFind? T).isSome = true) : PySem.W.subIn K (.type T) (.ref C) = some false := by
  obtain ⟨r, hr⟩ := Option.isSome_iff_exists.mp h
  show (fastBuiltinMro T).map (·.contains (Value.ref C)) = some false
  unfold fastBuiltinMro
  rw [hr]
  show some ((r.mro.map Value.type).contains (Value.ref C)) = some false
  rw [no_ref]
theorem knd_find (k : Knd) : (fastFind? k.name).isSome = true := by cases k <;> decide +kernel
/-- all that is asked of an own plain class x at C -/
structure ClsX (K : PySem.W.Frag) (mg : Str → Option Value) (x : Str) (C : Addr) : Prop where
  gC : mg x = some (.ref C)
  cl : Cls K C
  ha : PySem.W.findIn K (.ref C) "__class__" = some (some (.builtin "object.__class__"))
  hn : PySem.W.specialIn K (.builtin "object.__class__") "__get__" = some (some (.builtin "getset_descriptor.__get__"))
  htk : PySem.W.takesIn K (.builtin "object.__class__") = some true
  hm : PySem.W.mroIn K C (.type "object") = some true
  ne : PySem.W.findIn K (.ref C) "__ne__" = some (some (.builtin "object.__ne__"))
  is : PySem.W.isClsIn K C = true
  ty : PySem.W.typeIn K (.ref C) = some (.type "type")
  tup : PySem.W.subIn K (.ref C) (.type "tuple") = some false
  lst : PySem.W.subIn K (.ref C) (.type "list") = some false
  int : PySem.W.subIn K (.ref C) (.type "int") = some false
  str : PySem.W.subIn K (.ref C) (.type "str") = some false
variable {mg : Str → Option Value} {x : Str}
theorem ClsX.neM (T : ClsX K mg x C) : NeM K C := ⟨T.ne, T.hm⟩
theorem ClsX.tyOf (T : ClsX K mg x C) {H : Hp} {a dx : Addr} {fs : List (Str × V)} (e : H a = some (.ins C dx fs)) : TyX K H (.ref a) (.ref C) := .base (.ins e T.cl T.ha T.hn T.htk T.hm)
theorem ClsX.me (_ : ClsX K mg x C) : PySem.W.kitOne K (.ref C) (.ref C) = some true := if_pos (beq_self_eq_true _)
theorem ClsX.nfMe (_ : ClsX K mg x C) : PySem.W.notFirst K C (.ref C) = true := by
  show (Value.ref C == Value.ref C || _) = true
  rw [beq_self_eq_true]
  rfl
theorem ClsX.kitB (T : ClsX K mg x C) {t : Value} {b : Bool} (h : PySem.W.subIn K t (.ref C) = some b) (hne : (t == .ref C) = false) : PySem.W.kitOne K t (.ref C) = some b := by
  have e : ((PySem.W.clsIn K C).isSome && PySem.W.typeIn K (.ref C) == some (.type "type")) = true := by
    have h1 : (PySem.W.clsIn K C).isSome = true := T.is
    rw [h1, T.ty]
    rfl
  show (if (t == Value.ref C) = true then some true else if ((PySem.W.clsIn K C).isSome && PySem.W.typeIn K (.ref C) == some (.type "type")) = true then PySem.W.subIn K t (.ref C) else none) = some b
  rw [hne, if_neg Bool.false_ne_true, if_pos e]
  exact h
theorem ClsX.kitK (T : ClsX K mg x C) (k : Knd) : PySem.W.kitOne K (.type k.name) (.ref C) = some false := T.kitB (sub_ty_ref (knd_find k)) rfl
theorem ClsX.nfK (_ : ClsX K mg x C) (k : Knd) : PySem.W.notFirst K C (.type k.name) = true := by
  show (Value.type k.name == Value.ref C || PySem.W.subIn K (.type k.name) (.ref C) == some false) = true
  rw [sub_ty_ref (knd_find k)]
  exact Bool.or_eq_true_iff.mpr (.inr (by decide))
theorem kit_meta {T : String} {b : Bool} (h : PySem.W.subIn K (.ref C) (.type T) = some b) (hm : PySem.W.kitMeta T = true) : PySem.W.kitOne K (.ref C) (.type T) = some b := by
  show (if (Value.ref C == Value.type T) = true then some true else if PySem.W.kitMeta T = true then PySem.W.subIn K (.ref C) (.type T) else none) = some b
  rw [show (Value.ref C == Value.type T) = false from rfl, if_neg Bool.false_ne_true, if_pos hm]
  exact h
theorem ClsX.kTup (T : ClsX K mg x C) : PySem.W.kitOne K (.ref C) (.type "tuple") = some false := kit_meta T.tup (by decide +kernel)
theorem ClsX.kInt (T : ClsX K mg x C) : PySem.W.kitOne K (.ref C) (.type "int") = some false := kit_meta T.int (by decide +kernel)
theorem ClsX.kLst (T : ClsX K mg x C) : PySem.W.kitOne K (.ref C) (.type "list") = some false := kit_meta T.lst (by decide +kernel)
theorem ClsX.kStr (T : ClsX K mg x C) : PySem.W.kitOne K (.ref C) (.type "str") = some false := kit_meta T.str (by decide +kernel)
end
/-! ### an own error's class, from what the top has written -/
section
variable {P : Program} {w : World} {K : PySem.W.Frag} {mg : Str → Option Value} {base : Heap} {x f : Str} {C : Addr}
/-- what k_is finds of the class -/
structure XAt (K : PySem.W.Frag) (mg : Str → Option Value) (x f : Str) (C : Addr) (st : Stmt) (qual : Str) : Prop where
  ox : OexC K C
  gC : mg x = some (.ref C)
  noA : PySem.W.findIn K (.ref C) f = some none
  ec : ExcC K C
  tI : ∃ fI, PySem.W.findIn K (.ref C) "__init__" = some (some (.ref fI)) ∧ PySem.W.typeIn K (.ref fI) = some (.type "function") ∧ ∃ fd, Fun K "__init__" qual st fI fd ∧ Binds K fd ["self", f] []
theorem XAt.cls {st : Stmt} {qual : Str} (T : XAt K mg x f C st qual) (h : ∀ fI fd, Fun K "__init__" qual st fI fd → FnOk P w K mg base CX0 1 fI fd ["self", f] (spXI C f)) : XCls P w K mg base x f C := by
  obtain ⟨fI, i1, i2, fd, F, b⟩ := T.tI
  exact ⟨T.ox, T.gC, T.noA, T.ec, fI, fd, i1, i2, h fI fd F, b⟩
end
/-! ### fields -/
section
theorem lk_put {f g : Str} {v : V} {fs : List (Str × V)} : List.lookup g ((f, v) :: fs) = if (g == f) = true then some v else List.lookup g fs := by
  simp only [List.lookup]
  split
  · rename_i h; rw [h, if_pos rfl]
  · rename_i h; rw [h, if_neg Bool.false_ne_true]
end
end L2

set_option Elab.async false
set_option maxRecDepth 100000
set_option maxHeartbeats 4000000
/-! plain data: lists and tuples of flat values, compared -/
namespace L2
open PySem PySem.Spec PyProof.Rows
def pd : V → PyData
  | .int i => .int i
  | .bl b => .bool b
  | .str s => .str s
  | _ => .none
/-- flat, its text (if it is one) within the model's signs -/
def Fl : V → Prop
  | .int _ => True
  | .bl _ => True
  | .non => True
  | .str s => PySem.PyData.canLay0 (.str s) = true
  | _ => False
section
variable {K : PySem.W.Frag} {H : Hp} {v u : V}
theorem dp_fl (h : Fl v) : Dp K H v (pd v) := by
  cases v <;> first | exact .int _ | exact .bl _ | exact .str _ | exact .non | exact h.elim
theorem dp_all : ∀ {vs : List V}, (∀ v ∈ vs, Fl v) → DpAll K H vs (vs.map pd)
  | [], _ => .nil
  | v :: vs, h => .cons (dp_fl (h v List.mem_cons_self)) (dp_all fun u hu => h u (List.mem_cons_of_mem _ hu))
theorem lay_fl (h : Fl v) : (pd v).canLay0 = true := by
  cases v <;> first | rfl | exact h | exact h.elim
theorem dep_fl : (pd v).depth = 0 := by cases v <;> rfl
theorem lay_all : ∀ {vs : List V}, (∀ v ∈ vs, Fl v) → PyData.canLayAll0 (vs.map pd) = true ∧ PyData.depthAll (vs.map pd) = 0
  | [], _ => ⟨rfl, rfl⟩
  | v :: vs, h => by
    obtain ⟨a, b⟩ := lay_all (vs := vs) fun u hu => h u (List.mem_cons_of_mem _ hu)
    constructor
    · show ((pd v).canLay0 && PyData.canLayAll0 (vs.map pd)) = true
      rw [lay_fl (h v List.mem_cons_self), a]
      rfl
    · show max (pd v).depth (PyData.depthAll (vs.map pd)) = 0
      rw [dep_fl, b]
      rfl
theorem shp_fl (h : Fl v) : SeqAt.shaped (pd v) = true := by
  show ((pd v).canLay0 && decide ((pd v).depth ≤ 64)) = true
  rw [lay_fl h, dep_fl]
  rfl
theorem shp_tup {vs : List V} (h : ∀ v ∈ vs, Fl v) : SeqAt.shaped (.tuple (vs.map pd)) = true := by
  obtain ⟨a, b⟩ := lay_all h
  show (PyData.canLayAll0 (vs.map pd) && decide (PyData.depthAll (vs.map pd) + 1 ≤ 64)) = true
  rw [a, b]
  rfl
theorem shp_lst {vs : List V} (h : ∀ v ∈ vs, Fl v) : SeqAt.shaped (.list (vs.map pd)) = true := by
  obtain ⟨a, b⟩ := lay_all h
  show (PyData.canLayAll0 (vs.map pd) && decide (PyData.depthAll (vs.map pd) + 1 ≤ 64)) = true
  rw [a, b]
  rfl
theorem fl_int (n : Int) : Fl (.int n) := trivial
theorem fl_ints {ns : List Int} : ∀ v ∈ ns.map V.int, Fl v := fun v hv => by
  obtain ⟨n, _, rfl⟩ := List.mem_map.mp hv
  trivial
theorem eqv_ints : ∀ (ns ms : List Int), PyData.eqvAll ((ns.map V.int).map pd) ((ms.map V.int).map pd) = decide (ns = ms)
  | [], [] => rfl
  | [], _ :: _ => rfl
  | _ :: _, [] => rfl
  | n :: ns, m :: ms => by
    show ((n == m) && PyData.eqvAll ((ns.map V.int).map pd) ((ms.map V.int).map pd)) = decide (n :: ns = m :: ms)
    rw [eqv_ints ns ms, Bool.eq_iff_iff]
    simp
/-- the same values are equal data -/
theorem eqv_same : ∀ {vs : List V}, (∀ v ∈ vs, Fl v) → PyData.eqvAll (vs.map pd) (vs.map pd) = true
  | [], _ => rfl
  | v :: vs, h => by
    show (PyData.eqv (pd v) (pd v) && PyData.eqvAll (vs.map pd) (vs.map pd)) = true
    rw [eqv_same (vs := vs) fun u hu => h u (List.mem_cons_of_mem _ hu), Bool.and_true]
    cases v <;> first | rfl | (show (_ == _) = true; exact beq_self_eq_true _)
/-- two tuples compared (op_eqD, op_neD): what is left -/
theorem eqD_tup {p q : Addr} {vs us : List V} {Q : VK} (hp : SqT K H p vs) (hq : SqT K H q us) (fv : ∀ v ∈ vs, Fl v) (fu : ∀ v ∈ us, Fl v) (h : Q (.bl (PyData.eqvAll (vs.map pd) (us.map pd))) H) : rEqD K (.ref p) (.ref q) H Q :=
  ⟨_, _, .tup hp (dp_all fv), .tup hq (dp_all fu), shp_tup fv, shp_tup fu, h⟩
theorem neD_tup {p q : Addr} {vs us : List V} {Q : VK} (hp : SqT K H p vs) (hq : SqT K H q us) (fv : ∀ v ∈ vs, Fl v) (fu : ∀ v ∈ us, Fl v) (h : Q (.bl (!PyData.eqvAll (vs.map pd) (us.map pd))) H) : rNeD K (.ref p) (.ref q) H Q :=
  ⟨_, _, .tup hp (dp_all fv), .tup hq (dp_all fu), shp_tup fv, shp_tup fu, h⟩
theorem eqD_lst {p q : Addr} {vs us : List V} {Q : VK} (hp : SqL K H p vs) (hq : SqL K H q us) (fv : ∀ v ∈ vs, Fl v) (fu : ∀ v ∈ us, Fl v) (h : Q (.bl (PyData.eqvAll (vs.map pd) (us.map pd))) H) : rEqD K (.ref p) (.ref q) H Q :=
  ⟨_, _, .lst hp (dp_all fv), .lst hq (dp_all fu), shp_lst fv, shp_lst fu, h⟩
theorem neD_lst {p q : Addr} {vs us : List V} {Q : VK} (hp : SqL K H p vs) (hq : SqL K H q us) (fv : ∀ v ∈ vs, Fl v) (fu : ∀ v ∈ us, Fl v) (h : Q (.bl (!PyData.eqvAll (vs.map pd) (us.map pd))) H) : rNeD K (.ref p) (.ref q) H Q :=
  ⟨_, _, .lst hp (dp_all fv), .lst hq (dp_all fu), shp_lst fv, shp_lst fu, h⟩
end
end L2

set_option Elab.async false
set_option maxRecDepth 100000
set_option maxHeartbeats 4000000
namespace L2
open PySem PySem.Spec PyProof.Rows
section
variable {X : Cx}
/-- range(j), kept -/
theorem cr_range1 : CallR X (.type "range") (fun vs H Q => ∃ j, vs = [V.int j] ∧ ∀ p, H p = none → Q (.ref p) (upd H p (.rng 0 j))) := by
  intro pins s σ H vs us Q I r h
  obtain ⟨j, rfl, q⟩ := h
  obtain ⟨u1, rfl, rj⟩ := vals1 r
  obtain ⟨t, rfl⟩ := rj
  refine call_range_1 ⟨.ref s.heap.objs.size, upd H s.heap.objs.size (.rng 0 j), I.laid (t' := s.toks + 1 + 1) (fun b o e => Heap.get?_push_of_some _ e) (Nat.le_refl _) ?_, rfl, q _ (I.hok.fresh (Nat.le_refl _))⟩
  exact ⟨s.toks, t, s.toks + 1, Heap.get?_push_size _ rfl⟩
/-- len of a range -/
theorem call_lenR : CallR X (.builtin "len") (fun xs H Q => ∃ a lo hi, xs = [.ref a] ∧ H a = some (.rng lo hi) ∧ (hi - lo).toNat < 2 ^ 62 ∧ Q (.int ((hi - lo).toNat : Int)) H) := by
  intro pins s σ H xs us Q I r h
  obtain ⟨a, lo, hi, rfl, ha, hz, q⟩ := h
  rw [Vals.ref1 r]
  obtain ⟨t, u, v, ho⟩ := I.hok a _ ha
  exact call_len_range (n := (hi - lo).toNat) ho (rangeSize_nat lo hi) (by omega) ⟨.int ((hi - lo).toNat : Int), H, I.tok _, ⟨_, rfl⟩, q⟩
/-- sum of a tuple of ints -/
def rSumT (K : PySem.W.Frag) : List V → Hp → VK → Prop := fun vs H Q => ∃ (a : Addr) (ns : List Int), vs = [V.ref a] ∧ SqT K H a (ns.map V.int) ∧ Q (.int ns.sum) H
theorem cr_sumT (hc : X.calm = true) : CallR X (.builtin "sum") (rSumT X.K) := by
  intro pins s σ H vs us Q I r h
  obtain ⟨a, ns, rfl, hs, q⟩ := h
  obtain ⟨its, rv, hl, _⟩ := I.tuple hs
  rw [Vals.ref1 r]
  have hi := rv.ints
  obtain ⟨xs, e⟩ := hi.allInts.items
  have hn : numsOf (intItems xs).toList = ns := by rw [← e]; exact hi.numsOf
  rw [nums_intItems] at hn
  rw [e] at hl
  refine PySem.W.ktm_sumG (I.ok.hd hc) hl fun h' tk t' hk => ?_
  rw [preSum_eq, List.take_of_length_le (by simp), hn]
  exact ⟨.int ns.sum, H, I.kept hk, ⟨_, rfl⟩, q⟩
end
end L2

set_option Elab.async false
set_option maxRecDepth 100000
set_option maxHeartbeats 4000000
namespace L2
open PySem PySem.Spec PyProof.Rows
/-- a list or tuple at p of the items xs -/
def Sq (H : Hp) (p : Addr) (xs : List V) : Prop := H p = some (.lst xs) ∨ H p = some (.tup xs)
section
variable {K : PySem.W.Frag} {H H' : Hp} {p : Addr} {xs : List V}
theorem Sq.k (h : Sq H p xs) : ∃ k, KndOf H (.ref p) k ∧ k.isSeq = true := by
  rcases h with h | h
  · exact ⟨.list, ⟨p, xs, rfl, h⟩, rfl⟩
  · exact ⟨.tuple, ⟨p, xs, rfl, h⟩, rfl⟩
theorem Sq.ext (h : Sq H p xs) (e : Ext H H') : Sq H' p xs := h.imp (e _ _) (e _ _)
theorem Sq.l (h : Sq H p xs) : SqL K H p xs ∨ SqT K H p xs := h.imp SqL.of SqT.of
theorem ext_mut {D : Addr} {o : HO} (e : Ext H H') (h : H D = none) : Ext H (upd H' D o) := fun a u ha => by
  rw [upd_ne (ne_of_none ha h)]
  exact e a u ha
theorem ext_none {D : Addr} (e : Ext H H') (h : H' D = none) : H D = none := by
  cases h1 : H D with
  | none => rfl
  | some o =>
    rw [e D o h1] at h
    cases h
end
section
variable {X : Cx} {tg : Expr}
/-- a list or a tuple is walked -/
def iSq (K : PySem.W.Frag) (tl : TE) : TI := fun σ H R => tl σ H fun x H1 => ∃ a, x = .ref a ∧ (((∃ xs, SqL K H1 a xs) ∧ R (Itl K a) H1) ∨ ((∃ xs, SqT K H1 a xs) ∧ R (Itt K a) H1))
theorem pi_sq {l : Expr} {tl : TE} (hl : PE X l tl) : PI X tg l (iSq X.K tl) := by
  refine ⟨fun pins s σ H R I h => ?_⟩
  refine thn (hl.run pins s σ H _ I h) fun v s1 ⟨x, H1, I1, r1, q1⟩ => ?_
  obtain ⟨a, e, q1⟩ := q1
  subst e
  cases r1
  rcases q1 with ⟨⟨xs, hq⟩, q⟩ | ⟨⟨xs, hq⟩, q⟩
  · obtain ⟨its, rv, p, hz⟩ := I1.list hq
    refine wpAny_pyIter_list p.isList ?_
    refine ⟨s1.heap.objs.size, [s1.heap.objs.size], _, _, H1, rfl, I1.kept (t' := s1.toks) fun b o e => Heap.get?_push_of_some _ e, turn_list a _, ⟨_, Heap.get?_push_size _ rfl, rfl, rfl⟩, fun b hb => ?_, q⟩
    have e : b = s1.heap.objs.size := by simpa using hb
    subst e
    exact I1.fpOk (Nat.le_refl _) (I1.hok.fresh (Nat.le_refl _))
  · obtain ⟨its, rv, p, hz⟩ := I1.tuple hq
    refine wpAny_pyIter_tuple (show s1.heap.IsTuple a its.toArray from p) ?_
    refine ⟨s1.heap.objs.size, [s1.heap.objs.size], _, _, H1, rfl, I1.kept (t' := s1.toks) fun b o e => Heap.get?_push_of_some _ e, turn_tuple a _, ⟨_, Heap.get?_push_size _ rfl, rfl, rfl⟩, fun b hb => ?_, q⟩
    have e : b = s1.heap.objs.size := by simpa using hb
    subst e
    exact I1.fpOk (Nat.le_refl _) (I1.hok.fresh (Nat.le_refl _))
end
section
variable {K : PySem.W.Frag} {σ : St} {H : Hp} {p : Addr} {xs : List V} {te : TE} {tt : TT} {j : Nat} {vs : List Nat} {Q : VK}
theorem take_snoc {α : Type} {l : List α} {i : Nat} {x : α} (h : l[i]? = some x) : l.take (i + 1) = l.take i ++ [x] := by
  rw [List.take_add_one, h]
  rfl
/-- [f(x) for x in xs if b(x)], what is tested and made only adding to the heap: the reading behind the source's own -/
theorem lc_sqR {Qd : Addr → Hp → Prop} {f : V → V} {b : V → Bool} (hx : Sq H p xs) (hz : xs.length < sizeLine) (hw : ∀ x, wipe ((wipe σ vs).set j (some x)) vs = wipe σ vs)
    (ht : ∀ x ∈ xs, ∀ H', Ext H H' → ∀ Q : Bool → Hp → Prop, (∀ H'', Ext H' H'' → Q (b x) H'') → tt ((wipe σ vs).set j (some x)) H' Q)
    (he : ∀ x ∈ xs, b x = true → ∀ H', Ext H H' → ∀ Q : VK, (∀ H'', Ext H' H'' → Q (f x) H'') → te ((wipe σ vs).set j (some x)) H' Q)
    (q : ∀ D H', H D = none → Ext H H' → H' D = some (.lst ((xs.filter b).map f)) → Qd D H') :
    ((∃ xs, SqL K H p xs) ∧ (fun J H1 => ∀ D, H1 D = none → ∃ W : Nat → Nat → Hp → Prop, (∃ m, W 0 m (upd H1 D (.lst []))) ∧ ∀ i m H, W i m H →
      (J.stop i H ∧ Qd D H) ∨ (J.go i H ∧ ∃ Nx : Hp → Prop, (∀ H', Nx H' → ∃ m', m' < m ∧ W (i + 1) m' H') ∧ ∀ x H', J.yld i H x H' → gName j x (wipe σ vs) H' fun σ2 H2 => wipe σ2 vs = wipe σ vs ∧ tt σ2 H2 fun b H3 =>
        if b = true then te σ2 H3 fun y H4 => ∃ acc, H4 D = some (.lst acc) ∧ acc.length < sizeLine ∧ Nx (upd H4 D (.lst (acc ++ [y]))) else Nx H3)) (Itl K p) H) ∨
    ((∃ xs, SqT K H p xs) ∧ (fun J H1 => ∀ D, H1 D = none → ∃ W : Nat → Nat → Hp → Prop, (∃ m, W 0 m (upd H1 D (.lst []))) ∧ ∀ i m H, W i m H →
      (J.stop i H ∧ Qd D H) ∨ (J.go i H ∧ ∃ Nx : Hp → Prop, (∀ H', Nx H' → ∃ m', m' < m ∧ W (i + 1) m' H') ∧ ∀ x H', J.yld i H x H' → gName j x (wipe σ vs) H' fun σ2 H2 => wipe σ2 vs = wipe σ vs ∧ tt σ2 H2 fun b H3 =>
        if b = true then te σ2 H3 fun y H4 => ∃ acc, H4 D = some (.lst acc) ∧ acc.length < sizeLine ∧ Nx (upd H4 D (.lst (acc ++ [y]))) else Nx H3)) (Itt K p) H) := by
  have turn : ∀ (D : Addr), H D = none → ∀ i x H', xs[i]? = some x → (Ext H H' ∧ H' D = some (.lst (((xs.take i).filter b).map f))) → gName j x (wipe σ vs) H' fun σ2 H2 => wipe σ2 vs = wipe σ vs ∧ tt σ2 H2 fun b' H3 =>
      if b' = true then te σ2 H3 fun y H4 => ∃ acc, H4 D = some (.lst acc) ∧ acc.length < sizeLine ∧ (Ext H (upd H4 D (.lst (acc ++ [y]))) ∧ upd H4 D (.lst (acc ++ [y])) D = some (.lst (((xs.take (i + 1)).filter b).map f))) else (Ext H H3 ∧ H3 D = some (.lst (((xs.take (i + 1)).filter b).map f))) := by
    intro D hD i x H' hi pv
    obtain ⟨e, hl⟩ := pv
    have hm : x ∈ xs := List.mem_of_getElem? hi
    refine ⟨hw x, ht x hm H' e _ fun H3 e3 => ?_⟩
    have hl3 : H3 D = some (.lst (((xs.take i).filter b).map f)) := e3 _ _ hl
    cases hb : b x with
    | true =>
      refine iteT (he x hm hb H3 (e.trans e3) _ fun H4 e4 => ⟨_, e4 _ _ hl3, ?_, ext_mut ((e.trans e3).trans e4) hD, ?_⟩)
      · rw [List.length_map]
        refine Nat.lt_of_le_of_lt (Nat.le_trans (List.length_filter_le _ _) ?_) hz
        exact List.length_take_le' _ _
      · rw [upd_same, take_snoc hi, List.filter_append, List.map_append]
        simp [hb]
    | false =>
      refine iteF ⟨e.trans e3, ?_⟩
      rw [hl3, take_snoc hi, List.filter_append, List.map_append]
      simp [hb]
  have fin : ∀ D, H D = none → ∀ H', (Ext H H' ∧ H' D = some (.lst (((xs.take xs.length).filter b).map f))) → Qd D H' := fun D hD H' pv => by
    rw [List.take_length] at pv
    exact q D H' hD pv.1 pv.2
  rcases hx with hx | hx
  · refine .inl ⟨⟨xs, SqL.of hx⟩, fun D hD => lc_list (xs := xs) (fun i H' => Ext H H' ∧ H' D = some (.lst (((xs.take i).filter b).map f))) ⟨Ext.upd hD, upd_same⟩ (fun i H' _ pv => SqL.of (pv.1 _ _ hx)) (fun i x H' hi pv => turn D hD i x H' hi pv) (fun H' pv => fin D hD H' pv)⟩
  · refine .inr ⟨⟨xs, SqT.of hx⟩, fun D hD => lc_tup (xs := xs) (fun i H' => Ext H H' ∧ H' D = some (.lst (((xs.take i).filter b).map f))) ⟨Ext.upd hD, upd_same⟩ (fun i H' _ pv => SqT.of (pv.1 _ _ hx)) (fun i x H' hi pv => turn D hD i x H' hi pv) (fun H' pv => fin D hD H' pv)⟩
end
theorem filter_all {α : Type} (l : List α) : l.filter (fun _ => true) = l := List.filter_eq_self.mpr fun _ _ => rfl
end L2

set_option Elab.async false
set_option maxRecDepth 100000
set_option maxHeartbeats 4000000
/-! enumerate over a list or a tuple -/
namespace PySem
open Sem (wp)
/-- the maker of enumerate, handed one thing whose iterator is told -/
theorem en1_meets {v : Value} {ob : Obj} {HP : Heap → Prop} (BG : Begins v ob HP) :
    Meets (Builtin.«enumerate.__new__» ⟨[.type "enumerate", v], []⟩) (fun _ RR sh => HP sh.heap ∧
      RR (.ok (.ret (.ref (sh.heap.push ob).objs.size)))
        { sh with heap := (sh.heap.push ob).push { cls := .type "enumerate", data := .fields #[.none, .bool false, .ref sh.heap.objs.size, rawInt 0, .none, .none] } }) :=
  .of_wp fun pr ww AA RR sh hh => by
    obtain ⟨hp, gg, dd, tk, os⟩ := sh
    obtain ⟨hh1, hh⟩ := hh
    have sub1 := sub_enumerate
    have begin1 : ∀ {A1 : Around} {E1 Q1 : Value → Shared → Prop}, Q1 (.ref hp.objs.size) ⟨hp.push ob, gg, dd, tk, os⟩ →
        wpAny (model pr ww) A1 (pyIter v) Q1 E1 ⟨hp, gg, dd, tk, os⟩ :=
      fun qq => BG.iter pr ww _ _ ⟨hp, gg, dd, tk, os⟩ _ hh1 qq
    wp_walk using begin1
    refine wpAny_stack_any fun sta => wpAny_pure ?_
    split
    · rename_i cc _ _ _ _ _
      cases (cc == Value.type "enumerate")
      all_goals
        wp_walk using begin1
        exact ⟨_, rfl, hh⟩
    · wp_walk using begin1
      exact ⟨_, rfl, hh⟩
section
variable {pr : Program} {ww : World} {AA : Around} {EE : Value → Shared → Prop} {sh : Shared}
theorem en1_call {v : Value} {ob : Obj} {HP : Heap → Prop} {QQ : Value → Shared → Prop} (BG : Begins v ob HP) (hh : HP sh.heap)
    (kk : ∀ h1, IsEnum h1 (sh.heap.objs.size + 1) sh.heap.objs.size 0 .none → h1.get? sh.heap.objs.size = some ob →
      (∀ x y, sh.heap.get? x = some y → h1.get? x = some y) → QQ (.ref (sh.heap.objs.size + 1)) { sh with heap := h1 }) :
    wpAny (model pr ww) AA (call (.type "enumerate") [v]) QQ EE sh := by
  refine callType_new F.called_enumerate (by decide) (F.typeCall_enumerate_1 _) (F.newCall_enumerate_1 _) (fun oo => F.args_object_init_2 oo _) F.entry_enumerate_new (en1_meets BG) ⟨hh, ?_⟩
  have sz : (sh.heap.push ob).objs.size = sh.heap.objs.size + 1 := Heap.size_push ..
  show _ ∧ _
  rw [sz]
  have en : IsEnum ((sh.heap.push ob).push { cls := .type "enumerate", data := .fields #[.none, .bool false, .ref sh.heap.objs.size, rawInt 0, .none, .none] })
      (sh.heap.objs.size + 1) sh.heap.objs.size 0 .none := by
    have qq := Heap.get?_push_size (sh.heap.push ob) (o := { cls := .type "enumerate", data := .fields #[.none, .bool false, .ref sh.heap.objs.size, rawInt 0, .none, .none] }) rfl
    rw [sz] at qq
    exact qq
  exact ⟨⟨_, en, rfl⟩, kk _ en (Heap.get?_push_of_some _ (Heap.get?_push_size _ BG.free)) fun x y hx => Heap.get?_push_of_some _ (Heap.get?_push_of_some _ hx)⟩
end
end PySem
namespace L2
open PySem PySem.Spec PyProof.Rows
/-- the tuple at a, each item in a new pair with its place -/
def Itet (K : PySem.W.Frag) (a : Addr) : It :=
  ⟨fun i H => ∃ xs : List V, SqT K H a xs ∧ i < xs.length,
    fun i H v H' => ∃ T x, v = .ref T ∧ H T = none ∧ H' = upd H T (.tup [.int (i : Nat), x]) ∧ ∀ xs, SqT K H a xs → xs[i]? = some x,
    fun i H => ∃ xs : List V, SqT K H a xs ∧ xs.length = i⟩
theorem turn_enT {P : Program} {w : World} {K : PySem.W.Frag} {elts : List Expr} {kk : Nat} {tpos : Pos} (a e it : Addr) (hea : e ≠ a) (hia : a ≠ it) :
    Turn P w K (.Tuple elts kk tpos) (Itet K a) [e, it] e (fun i h => (∃ old, IsEnum h e it ((i : Nat) : Int) old) ∧ h.IsTupleIter it a i ∧ e ≠ it) where
  mem := List.mem_cons_self
  obj := fun i h st b hb => by
    obtain ⟨⟨old, he⟩, ⟨o, ho, _, hd⟩, _⟩ := st
    rcases List.mem_cons.mp hb with z | z
    · subst z
      exact ⟨_, he, fun v q => nomatch q⟩
    · have z' := List.mem_singleton.mp z
      subst z'
      exact ⟨o, ho, fun v q => by rw [hd] at q; cases q⟩
  keep := fun i h h' st k => by
    obtain ⟨⟨old, he⟩, hi, hne⟩ := st
    exact ⟨⟨old, k e List.mem_cons_self _ he⟩, hi.at fun o q => k it (List.mem_cons_of_mem _ (List.mem_singleton.mpr rfl)) o q, hne⟩
  item := by
    intro X hP hw hK hc i pins s σ H E I hf st hg
    subst hP hw hK
    obtain ⟨⟨old, he⟩, hit, hne⟩ := st
    obtain ⟨xs, hq, hx⟩ := hg
    obtain ⟨its, rv, p, hz⟩ := I.tuple hq
    have hl := rv.length
    have hel : e < s.heap.objs.size := Heap.lt_size he
    have hil : it < s.heap.objs.size := by
      obtain ⟨_, q, _⟩ := hit
      exact Heap.lt_size q
    have D := Draws.tuple (prog := X.prog) (w := X.w) (A := X.A.in1) (show X.A.in1.handled = none from I.ok.hd hc) it a hia its.toArray
    refine wpAny_pyNext_enum_itemC D he (i := i) ⟨hit, p⟩ (by simp; omega) hne (by simp [hne, hea]) fun u h' tk hP ho hst' hT hsz hk => ?_
    have hu : its[i]? = some u := by simpa using hP
    obtain ⟨x, hxx⟩ : ∃ x, xs[i]? = some x := ⟨_, List.getElem?_eq_getElem hx⟩
    obtain ⟨u', hu', ru'⟩ := rv.get hxx
    have eu : u' = u := Option.some.inj (hu'.symm.trans hu)
    subst eu
    refine ⟨_, rfl, wpAny_letOwnedTupleGo_enum (s := { s with heap := h', toks := tk + 1 }) ho fun h2 he2 sb => ?_⟩
    have hT2 : h2.get? s.heap.objs.size = some { cls := .type "tuple", data := .seq #[.int i tk, u'] } := (sb.2 _ (Nat.ne_of_gt hel)).trans hT
    have new : ObjOk X.prog X.w (upd H s.heap.objs.size (.tup [.int (i : Nat), x])) h2 s.heap.objs.size (.tup [.int (i : Nat), x]) := by
      refine ⟨?_, [.int i tk, u'], .cons ⟨_, rfl⟩ (.cons ru' .nil), ⟨_, hT2, rfl, _, rfl⟩⟩
      show 2 ≤ sizeLine
      decide
    have I1 : Inv X pins σ (upd H s.heap.objs.size (.tup [.int (i : Nat), x])) { s with heap := h2, toks := tk + 1 } := by
      refine I.turnedNew (ch := [e, it]) (fun b ob hb q => ?_) hf (Nat.le_refl _) new
      have b1 : b ≠ e := fun z => hb (by simp [z])
      have b2 : b ≠ it := fun z => hb (by simp [z])
      exact (sb.2 b b1).trans (hk b ob b1 b2 q)
    refine ⟨.ref s.heap.objs.size, _, I1, rfl, ⟨_, x, rfl, I.hok.fresh (Nat.le_refl _), rfl, fun ys hy => ?_⟩, ⟨⟨u', ?_⟩, hst'.1.at fun o q => (sb.2 it (Ne.symm hne)).trans q, hne⟩, fun b hb => ?_⟩
    · obtain ⟨its2, rv2, p2, _⟩ := I.tuple hy
      rw [I.tuple_inj hy hq]
      exact hxx
    · have e1 : ((i + 1 : Nat) : Int) = (i : Int) + 1 := rfl
      rw [e1]
      exact he2
    · have hb' : b < s.heap.objs.size := by
        rcases List.mem_cons.mp hb with z | z
        · rw [z]
          exact hel
        · rw [List.mem_singleton.mp z]
          exact hil
      rw [upd_ne (Nat.ne_of_lt hb')]
      exact (hf b hb).1
  done := by
    intro X hP hw hK hc i pins s σ H E I hf st hg
    subst hP hw hK
    obtain ⟨⟨old, he⟩, hit, hne⟩ := st
    obtain ⟨xs, hq, hx⟩ := hg
    obtain ⟨its, rv, p, hz⟩ := I.tuple hq
    have hl := rv.length
    obtain ⟨f0, f1, f2, f3, f4, f5⟩ := hf it (List.mem_cons_of_mem _ (List.mem_singleton.mpr rfl))
    have D := Draws.tuple (prog := X.prog) (w := X.w) (A := X.A.in1) (show X.A.in1.handled = none from I.ok.hd hc) it a hia its.toArray
    have ei : i = its.toArray.size := by simp; omega
    refine wpAny_pyNext_enum_endD D he (by rw [← ei]; exact ⟨hit, p⟩) fun h' eb => ⟨rfl, ?_⟩
    exact I.turned (t' := s.toks) (fun b o hb q => eb b o hb q) f0 f1 f3 f4 f5
  self := fun A i s Q E st h => by
    obtain ⟨⟨_, he⟩, _⟩ := st
    exact wpAny_pyIter_enum he h
/-- a list or a tuple is walked with the places -/
def iEnSq (K : PySem.W.Frag) (ta : TA) : TI := fun σ H R => ta σ H fun vs H1 => ∃ a, vs = [.ref a] ∧ (((∃ xs, SqL K H1 a xs) ∧ R (Ite K a) H1) ∨ ((∃ xs, SqT K H1 a xs) ∧ R (Itet K a) H1))
theorem pi_enSq {X : Cx} {e : Expr} {ta : TA} {p pos tpos : Pos} {elts : List Expr} {kk : Nat} (hg : Gl X "enumerate") (hm : X.mg "enumerate" = none) (ha : PA X [e] ta) (hs : starEach [e] X.env = [(false, eval e X.env)] := by rfl) :
    PI X (.Tuple elts kk tpos) (.Call (.Name "enumerate" p) [e] [] pos) (iEnSq X.K ta) := by
  refine ⟨fun pins s σ H R I h => ?_⟩
  refine Call_ (ld_blt I hg hm boot_enumerate (PyProof.Rows.callWith_type1 (thn (ha.run pos pins s σ H _ I h) fun us s1 ⟨vs, H1, I1, r1, q1⟩ => ?_) hs rfl))
  obtain ⟨a, ex, q1⟩ := q1
  subst ex
  obtain rfl := Vals.ref1 r1
  have two : ∀ b, b ∈ [s1.heap.objs.size + 1, s1.heap.objs.size] → s1.heap.objs.size ≤ b := fun b hb => by
    rcases List.mem_cons.mp hb with z | z
    · rw [z]
      exact Nat.le_add_right _ _
    · rw [List.mem_singleton.mp z]
      exact Nat.le_refl _
  rcases q1 with ⟨⟨xs, hq⟩, q⟩ | ⟨⟨xs, hq⟩, q⟩
  · obtain ⟨its, rv, p', hz⟩ := I1.list hq
    refine en1_call (begins_list a its.toArray) p'.isList fun h' he hit hk => wpAny_pyIter_enum he ?_
    have I2 : Inv X pins σ H1 { s1 with heap := h' } := I1.kept (t' := s1.toks) hk
    refine ⟨s1.heap.objs.size + 1, [s1.heap.objs.size + 1, s1.heap.objs.size], _, _, H1, rfl, I2, turn_enum a (s1.heap.objs.size + 1) s1.heap.objs.size, ⟨⟨.none, he⟩, ⟨_, hit, rfl, rfl⟩, Nat.succ_ne_self _⟩, fun b hb => ?_, q⟩
    exact I1.fpOk (two b hb) (I1.hok.fresh (two b hb))
  · obtain ⟨its, rv, p', hz⟩ := I1.tuple hq
    have hlt : a < s1.heap.objs.size := by
      obtain ⟨o, ho, _⟩ := (show s1.heap.IsTuple a its.toArray from p')
      exact Heap.lt_size ho
    refine en1_call (begins_tuple a its.toArray) p' fun h' he hit hk => wpAny_pyIter_enum he ?_
    have I2 : Inv X pins σ H1 { s1 with heap := h' } := I1.kept (t' := s1.toks) hk
    refine ⟨s1.heap.objs.size + 1, [s1.heap.objs.size + 1, s1.heap.objs.size], _, _, H1, rfl, I2, turn_enT a (s1.heap.objs.size + 1) s1.heap.objs.size (Nat.ne_of_gt (Nat.lt_succ_of_lt hlt)) (Nat.ne_of_lt hlt), ⟨⟨.none, he⟩, ⟨_, hit, rfl, rfl⟩, Nat.succ_ne_self _⟩, fun b hb => ?_, q⟩
    exact I1.fpOk (two b hb) (I1.hok.fresh (two b hb))
section
variable {K : PySem.W.Frag} {a : Addr} {xs : List V}
theorem walk_enT : Walk (Itet K a) xs.length (fun H => SqT K H a xs) (YPair (fun i => some (.int (i : Nat))) (fun i => xs[i]?)) := by
  refine ⟨fun i _ hi q => ⟨xs, q, hi⟩, fun _ q => ⟨xs, q, rfl⟩, fun i H v H' _ q y => ?_⟩
  obtain ⟨T, x, e1, e2, e3, e4⟩ := y
  exact ⟨T, .int (i : Nat), x, e1, e2, e3, rfl, e4 xs q⟩
/-- the turns of an end: what goes on is N -/
def turnsOf (g : TG) (tb : TS) (D : Ends) (σ : St) (J : It) (H : Hp) : Prop := ∃ W : Nat → Nat → St → Hp → Prop, (∃ m, W 0 m σ H) ∧ ∀ i m σ H, W i m σ H →
  (J.stop i H ∧ D.nx σ H) ∨ (J.go i H ∧ ∃ N : St → Hp → Prop, (∀ σ' H', N σ' H' → ∃ m', m' < m ∧ W (i + 1) m' σ' H') ∧ ∀ x H', J.yld i H x H' → g x σ H' fun σ2 H2 => tb { D with nx := N, ct := N, bk := D.nx } σ2 H2)
theorem for_enSq {g : TG} {tb : TS} {D : Ends} {σ : St} {H : Hp} (hx : SqL K H a xs ∨ SqT K H a xs) (Pv : Nat → St → Hp → Prop) (h0 : Pv 0 σ H) (hE : ∀ i σ' H', Pv i σ' H' → Ext H H')
    (hs : ∀ i x σ' H' T, xs[i]? = some x → Pv i σ' H' → H' T = none → g (.ref T) σ' (upd H' T (.tup [.int (i : Nat), x])) fun σ2 H2 => tb { D with nx := Pv (i + 1), ct := Pv (i + 1), bk := D.nx } σ2 H2) (hd : ∀ σ' H', Pv xs.length σ' H' → D.nx σ' H') :
    ((∃ xs, SqL K H a xs) ∧ turnsOf g tb D σ (Ite K a) H) ∨ ((∃ xs, SqT K H a xs) ∧ turnsOf g tb D σ (Itet K a) H) := by
  have step : ∀ i x σ' H' H'', i < xs.length → Pv i σ' H' → YPair (fun i => some (V.int (i : Nat))) (fun i => xs[i]?) i H' x H'' → g x σ' H'' fun σ2 H2 => tb { D with nx := Pv (i + 1), ct := Pv (i + 1), bk := D.nx } σ2 H2 := by
    rintro i v σ' H' H'' hi pv ⟨T, x, y, rfl, hT, rfl, hx', hy⟩
    cases hx'
    exact hs i y σ' H' T hy pv hT
  rcases hx with hx | hx
  · exact .inl ⟨⟨xs, hx⟩, for_it (walk_enum (xs := xs)) Pv h0 (fun i σ' H' _ pv => hx.ext (hE i σ' H' pv)) step hd⟩
  · exact .inr ⟨⟨xs, hx⟩, for_it (walk_enT (xs := xs)) Pv h0 (fun i σ' H' _ pv => hx.ext (hE i σ' H' pv)) step hd⟩
end
end L2

set_option Elab.async false
set_option maxRecDepth 100000
set_option maxHeartbeats 4000000
/-! values told by the data that they hold -/
namespace L2
open PySem PySem.Spec PyProof.Rows
/-- the type's name -/
def tnD : PyData → String
  | .none => "NoneType" | .bool _ => "bool" | .int _ => "int" | .str _ => "str" | .list _ => "list" | .tuple _ => "tuple" | .dict _ => "dict"
def isIntD : PyData → Bool | .int _ => true | .bool _ => true | _ => false
def isBoolD : PyData → Bool | .bool _ => true | _ => false
def isTupD : PyData → Bool | .tuple _ => true | _ => false
def isListD : PyData → Bool | .list _ => true | _ => false
def isStrD : PyData → Bool | .str _ => true | _ => false
def isSeqD : PyData → Bool | .list _ => true | .tuple _ => true | _ => false
def isNoneD : PyData → Bool | .none => true | _ => false
/-- the int that it is, no truth -/
def betD (d : PyData) (a b : Int) : Bool := match d with
  | .int n => decide (a ≤ n) && decide (n ≤ b)
  | _ => false
def lenD : PyData → Nat | .list ds => ds.length | .tuple ds => ds.length | _ => 0
section
variable {K : PySem.W.Frag} {H H' : Hp} {v : V} {d : PyData}
theorem dp_ty (h : Dp K H v d) : TyX K H v (.type (tnD d)) := by
  cases h with
  | non => exact .base .non
  | bl b => exact .base (.bl b)
  | int i => exact .base (.int i)
  | str s => exact .base (.str s)
  | lst hs _ =>
    rcases hs with (h | ⟨o, h⟩) | ⟨o, its, n, e, c, _⟩
    · exact .base (.lst h)
    · exact .base (.frz h)
    · exact .kList e c
  | tup hs _ =>
    rcases hs with (h | ⟨o, h⟩) | ⟨o, its, n, e, c, _⟩
    · exact .base (.tup h)
    · exact .fTuple h
    · exact .kTuple e c
theorem kd_int : PySem.W.kitOne K (.type (tnD d)) (.type "int") = some (isIntD d) := by cases d <;> exact kit_ty (by dsimp only [tnD, isIntD]; decide +kernel)
theorem kd_bool : PySem.W.kitOne K (.type (tnD d)) (.type "bool") = some (isBoolD d) := by cases d <;> exact kit_ty (by dsimp only [tnD, isBoolD]; decide +kernel)
theorem kd_tup : PySem.W.kitOne K (.type (tnD d)) (.type "tuple") = some (isTupD d) := by cases d <;> exact kit_ty (by dsimp only [tnD, isTupD]; decide +kernel)
theorem kd_list : PySem.W.kitOne K (.type (tnD d)) (.type "list") = some (isListD d) := by cases d <;> exact kit_ty (by dsimp only [tnD, isListD]; decide +kernel)
theorem kd_seq : PySem.W.kitAny K (.type (tnD d)) [.type "list", .type "tuple"] = some (isSeqD d) := by
  unfold PySem.W.kitAny
  rw [kd_list]
  unfold PySem.W.kitAny
  rw [kd_tup]
  cases d <;> rfl
theorem kd_find : (fastFind? (tnD d)).isSome = true := by cases d <;> (dsimp only [tnD]; decide +kernel)
mutual
theorem dp_ext (e : Ext H H') : ∀ (d : PyData) (v : V), Dp K H v d → Dp K H' v d
  | .none, _, h => by cases h; exact .non
  | .bool _, _, h => by cases h; exact .bl _
  | .int _, _, h => by cases h; exact .int _
  | .str _, _, h => by cases h; exact .str _
  | .list ds, _, h => by
    cases h with
    | lst hs ha => exact .lst (hs.ext e) (dps_ext e ds _ ha)
  | .tuple ds, _, h => by
    cases h with
    | tup hs ha => exact .tup (hs.ext e) (dps_ext e ds _ ha)
  | .dict _, _, h => by cases h
theorem dps_ext (e : Ext H H') : ∀ (ds : List PyData) (vs : List V), DpAll K H vs ds → DpAll K H' vs ds
  | [], _, h => by cases h; exact .nil
  | d :: ds, _, h => by
    cases h with
    | cons h1 h2 => exact .cons (dp_ext e d _ h1) (dps_ext e ds _ h2)
end
theorem dps_len : ∀ {vs : List V} {ds : List PyData}, DpAll K H vs ds → vs.length = ds.length
  | [], _, h => by cases h; rfl
  | v :: vs, _, h => by
    cases h with
    | cons _ h2 => exact congrArg Nat.succ (dps_len h2)
theorem dps_get : ∀ {vs : List V} {ds : List PyData} {i : Nat} {v : V}, DpAll K H vs ds → vs[i]? = some v → ∃ d, ds[i]? = some d ∧ Dp K H v d
  | [], _, _, _, _, e => by cases e
  | v :: vs, _, i, _, h, e => by
    cases h with
    | @cons _ _ d ds h1 h2 =>
      cases i with
      | zero => cases e; exact ⟨d, rfl, h1⟩
      | succ i => exact dps_get (i := i) h2 e
theorem bet_int {n a b : Int} : betD (.int n) a b = (decide (a ≤ n) && decide (n ≤ b)) := rfl
theorem bet_not {a b : Int} (h : (isIntD d && !isBoolD d) = false) : betD d a b = false := by cases d <;> first | rfl | cases h
theorem bet_yes {a b : Int} (h : betD d a b = true) : ∃ n, d = .int n ∧ a ≤ n ∧ n ≤ b := by
  cases d <;> first | (rw [bet_int, Bool.and_eq_true, decide_eq_true_eq, decide_eq_true_eq] at h; exact ⟨_, rfl, h.1, h.2⟩) | cases h
theorem int_yes (h : (isIntD d && !isBoolD d) = true) : ∃ n, d = .int n := by cases d <;> first | exact ⟨_, rfl⟩ | cases h
theorem dp_int {n : Int} (h : Dp K H v (.int n)) : v = .int n := by cases h; rfl
theorem dp_seq (h : Dp K H v d) (hs : isSeqD d = true) : ∃ (a : Addr) (xs : List V) (ds : List PyData), v = .ref a ∧ (SqL K H a xs ∨ SqT K H a xs) ∧ DpAll K H xs ds ∧ (d = .list ds ∨ d = .tuple ds) := by
  cases h with
  | lst h ha => exact ⟨_, _, _, rfl, .inl h, ha, .inl rfl⟩
  | tup h ha => exact ⟨_, _, _, rfl, .inr h, ha, .inr rfl⟩
  | _ => cases hs
theorem dp_tup (h : Dp K H v d) (hs : isTupD d = true) : ∃ (a : Addr) (xs : List V) (ds : List PyData), v = .ref a ∧ SqT K H a xs ∧ DpAll K H xs ds ∧ d = .tuple ds := by
  cases h with
  | tup h ha => exact ⟨_, _, _, rfl, h, ha, rfl⟩
  | _ => cases hs
end
/-! ### own methods, called -/
section
variable {X : Cx} {CX : CXT} {m : Str} {k : Nat} {ps : List Str} {sp : Sp} {e o : Expr} {es : List Expr} {t : TA} {ta : TE} {pos apos : Pos} {C : Addr}
theorem pe_ownM0 {pl : Sem Bool} (O : OwnM X.prog X.w X.K X.mg X.base CX C m k ps sp) (he : PE X o ta) (c : Cls X.K C) (hr : Room k X.A) (hx : Passes CX X E0)
    (ht : eval (.Call (.Attribute o m apos) [] [] pos) X.env = (do
      let ov ← eval o X.env
      standAt apos.atName
      let (f, first) ← holding [ov] (getMethod ov m pl)
      callWith pos f first (backTo pos (starEach [] X.env)) (backToKw pos (keywordEach [] X.env))) := by rfl) :
    PE X (.Call (.Attribute o m apos) [] [] pos) (tMeth C m sp [] E0 ta tNil) := by
  obtain ⟨f, fd, F, M, _, hb⟩ := O.ex
  exact pe_meth0 he c M F hr hb .nil hx ht
theorem pe_ownM {pl : Sem Bool} (O : OwnM X.prog X.w X.K X.mg X.base CX C m k ps sp) (he : PE X o ta) (c : Cls X.K C) (hr : Room k X.A) (hx : Passes CX X E0) (ha : PA X (e :: es) t)
    (hst : starEach (e :: es) X.env = (false, eval e X.env) :: starEach es X.env := by rfl) (hpl : (backTo pos (starEach es X.env)).any (·.1) = false := by rfl)
    (ht : eval (.Call (.Attribute o m apos) (e :: es) [] pos) X.env = (do
      let ov ← eval o X.env
      standAt apos.atName
      let (f, first) ← holding [ov] (getMethod ov m pl)
      callWith pos f first (backTo pos (starEach (e :: es) X.env)) (backToKw pos (keywordEach [] X.env))) := by rfl) :
    PE X (.Call (.Attribute o m apos) (e :: es) [] pos) (tMeth C m sp [] E0 ta t) := by
  obtain ⟨f, fd, F, M, _, hb⟩ := O.ex
  exact pe_meth he c M F hr hb .nil hx ha hst hpl ht
end
end L2

set_option Elab.async false
set_option maxRecDepth 100000
set_option maxHeartbeats 4000000
/-! defs that are handed the error that the suite holds; classes made with defaults -/
namespace L2
open PySem PySem.Spec PyProof.Rows
section
variable {X : Cx}
/-- isinstance(e, c), e the held error, anywhere that it is pinned -/
theorem call_isEP {a D : Addr} {cls : Value} {d : Option Addr} {oe : Obj} (hpn : (a, oe) ∈ X.pn) (C : ExcC X.K D) (hz : Zc cls d oe) (hf : ∃ vs, oe.data = .fields vs) : CallR X (.builtin "isinstance") (rIsED X.K D a cls d) := by
  intro pins s σ H xs us Q I r h
  obtain ⟨ec0, hdd, c, cv, b, rfl, hcv, e, q⟩ := h
  subst ec0
  cases r with
  | cons rx rr =>
    cases rr with
    | cons rt rr =>
      cases rr
      cases rx
      have ec := hcv _ rt
      subst ec
      obtain ⟨hget, _⟩ := I.pin (a, oe) (List.mem_append.mpr (.inl hpn))
      obtain ⟨vs, hv⟩ := hf
      have J : ∃ od, PySem.W.InstAt s.heap a oe D od := by
        obtain ⟨oc, od, oda, osl⟩ := oe
        obtain ⟨h1, h2⟩ := hz
        dsimp only at h1 h2 hv
        subst h1 h2 hv
        cases od with
        | none => exact ⟨none, hget, rfl, rfl, trivial⟩
        | some dd =>
          obtain ⟨fs, hfs⟩ := hdd dd rfl
          obtain ⟨mA, hns, _⟩ := (show ObjOk X.prog X.w H s.heap dd (.xd fs) from I.hok dd _ hfs)
          obtain ⟨od, ho, _⟩ := lookIn_ns hns
          exact ⟨some od, hget, rfl, rfl, ho⟩
      exact PySem.W.kia_one (PySem.W.kitx_excD C) I.kIn J e (fun z => nomatch z) fun tk => ⟨.bl b, H, I.kept (t' := tk) fun _ _ z => z, rfl, q⟩
/-- e.f of it -/
theorem pe_xfP {a C : Addr} {oe : Obj} {cls : Value} {d : Option Addr} {e : Expr} {te : TE} {pos : Pos} {n : Str} (hpn : (a, oe) ∈ X.pn) (T : XfC X.K C) (hno : PySem.W.findIn X.K (.ref C) n = some none)
    (hz : Zc cls d oe) (hf : ∃ vs, oe.data = .fields vs) (he : PE X e te) (hb : attributeBase e n X.env (eval e X.env) = eval e X.env := by rfl) :
    PE X (.Attribute e n pos) (tXf a cls d C n te) := by
  refine ⟨fun pins s σ H Q I h => attr_of hb (thn (he.run pins s σ H _ I h) fun u s1 hh => ?_)⟩
  obtain ⟨x, H1, I1, rx, ex, ec, dd, fs, v, ed, ea, l, q⟩ := hh
  subst ex ec ed
  obtain rfl : u = Value.ref a := rx
  obtain ⟨hget, _⟩ := I1.pin (a, oe) (List.mem_append.mpr (.inl hpn))
  obtain ⟨vs, hv⟩ := hf
  obtain ⟨mA, hns, hr⟩ := (show ObjOk X.prog X.w H1 s1.heap dd (.xd fs) from I1.hok dd _ ea)
  obtain ⟨od, ho, hl⟩ := lookIn_ns hns
  obtain ⟨uu, hu, ru⟩ := RelO.some_of (v := v) (o := mA n) (by rw [← l]; exact hr n)
  have ncls : PySem.W.notCls oe = true := by
    unfold PySem.W.notCls
    rw [hv] <;> rfl
  have J : PySem.W.InstAt s1.heap a oe C (some od) := ⟨hget, hz.1, ncls, by rw [hz.2]; exact ho⟩
  have fo := PySem.W.findObj_own T.hdC hno (od := od) rfl (by rw [hl, hu])
  exact HandSPX.exc_get I1.kIn J T.ga T.gg T.exC fo (handed_of ru) ⟨v, H1, I1.tok _, ru, q⟩
end
end L2
namespace L2H
open PySem PySem.Spec PyProof.Rows L2 HotX
/-- such a def: its promise speaks of the held error, too -/
structure FnE (P : Program) (w : World) (K : PySem.W.Frag) (mg : Str → Option Value) (base : Heap) (CX : CXT) (k : Nat) (f : Addr) (fd : FuncData) (ps : List Str) (sp : Addr × Obj → Sp) : Prop where
  len : ∀ p vs H Q E, sp p vs H Q E → vs.length = ps.length
  run : ∀ (p : Addr × Obj) (AA : Around) (outer : List Env) (sh : Shared) (H : Hp) (args : Args) (us : List Value) (vs : List V) (Q : VK) (E : XK), RoomH k AA → PinOk outer H sh p → Env0 P w K mg base AA outer sh H →
    BindsTo sh fd args (ps.zip us) → Vals vs us → sp p vs H Q E → codeAny (model P w) AA (.call (.ref f) args) (CR CX outer P w H sh Q E) sh
section
variable {CX : CXT} {P : Program} {w : World} {K : PySem.W.Frag} {mg : Str → Option Value} {base : Heap} {k : Nat} {f : Addr} {fd : FuncData} {x qual : Str} {st : Stmt} {N ps : List Str} {sp : Addr × Obj → Sp}
theorem fnE_of (F : Fun K x qual st f fd) (S : FnScope N ps (defScope st)) (len : ∀ p vs H Q E, sp p vs H Q E → vs.length = ps.length)
    (hbody : ∀ (p : Addr × Obj) (cdv : Value) (AA : Around) (outer : List Env) (sh : Shared) (H : Hp) (vs : List V) (Q : VK) (E : XK), RoomH k (AA.deeper (envOfC qual (defScope st) sh.heap.objs.size f cdv)) → sp p vs H Q E →
      ∃ t, PSs (cxH CX P w K mg base N qual (defScope st) f cdv AA outer sh H E p) (defBody st) t ∧ t { nx := fun _ H' => Q .non H', rt := Q } (L2.start N vs) H) : FnE P w K mg base CX (k + 1) f fd ps sp := by
  obtain ⟨oc, od, kV, doc, pm, an, cdv, ct, osl, rfl, lk, hcd⟩ := F.ex
  refine ⟨len, fun p AA outer sh H args us vs Q E hr hpin e0 hb r hsp => ?_⟩
  have hl := len _ _ _ _ _ hsp
  have KX : K.In sh.heap := e0.mod.kin.keeps fun b o e => (e0.bs b o e).1
  have lim : sh.heap.NoLimit := e0.mod.nolimit.keeps fun b o e => (e0.bs b o e).1
  have binds : ∀ y ∈ ps.zip us, (defScope st).names.lookup y.1 = some .local ∨ ((defScope st).names.lookup y.1 = some .cell ∧ ((cellsFrom (sh.heap.objs.size + 1) (defScope st).names []).lookup y.1).isSome = true) := by
    rintro ⟨n, v⟩ hy
    rcases S.par n (List.of_mem_zip hy).1 with q | q
    · exact .inl q
    · exact .inr ⟨q, PySem.W.cellsFrom_some _ _ _ (.inl q)⟩
  refine codeAny_call_function hr.depth (KX _ _ lk) rfl S.co S.gen rfl (PySem.W.codeRec_of KX hcd) (hb _ _ _ _ ?_)
  refine wpAny_newFunctionEnv_cells S.kind binds fun env he s1 xx => ?_
  subst he
  refine ⟨lim.keeps xx.toInCall.keep, codeAny_func ?_⟩
  obtain ⟨t, ht, hq⟩ := hbody p cdv AA outer sh H vs Q E (hr.deeper _) hsp
  have I := inv_startH (CX := CX) (E := E) S hpin e0 hl r xx
  refine wpAny_mono (ht.run [] s1 (L2.start N vs) H _ I hq) (fun fl s' hs => ?_) fun _ _ hs => hs
  cases fl with
  | ret u =>
    obtain ⟨v, σ', H', J, rv, q⟩ := hs
    exact ⟨v, H', J.os, J.bare, J.base, J.hok, rv, q⟩
  | next =>
    obtain ⟨σ', H', J, q⟩ := hs
    exact ⟨V.non, H', J.os, J.bare, J.base, J.hok, rfl, q⟩
  | brk =>
    obtain ⟨_, _, _, q⟩ := hs
    exact q.elim
  | cont =>
    obtain ⟨_, _, _, q⟩ := hs
    exact q.elim
end
section
variable {X : Cx} {CX : CXT} {k : Nat} {f : Addr} {fd : FuncData} {ps : List Str} {sp : Addr × Obj → Sp} {x : Str} {q pos : Pos} {e : Expr} {es : List Expr} {t : TA} {p : Addr × Obj}
/-- f(e, ..) in the suite that holds p -/
theorem pe_callE (F : FnE X.prog X.w X.K X.mg X.base CX k f fd ps sp) (hr : RoomH k X.A) (hp : p ∈ X.pn) (hg : Gl X x) (hm : X.mg x = some (.ref f)) (hk : PySem.W.keepIn X.K (.ref f) = true) (hb : Binds X.K fd ps []) (hx : Passes CX X E0)
    (ha : PA X (e :: es) t) (hdb : (x == ("__debug__" : Str)) = false := by decide) (he : starEach (e :: es) X.env = (false, eval e X.env) :: starEach es X.env := by rfl) (hpl : (backTo pos (starEach es X.env)).any (·.1) = false := by rfl) :
    PE X (.Call (.Name x q) (e :: es) [] pos) (tCall (sp p) [] E0 t) := by
  refine ⟨fun pins s σ H Q I h => wpAny_Call_Name_kw (ld_glob I hg hm ?_ hdb)⟩
  refine PySem.W.callWith_K (h₀ := X.base) I.ok.mod.kin hk (thn (ha.run pos pins s σ H _ I h) fun us s1 ⟨vs, H1, I1, r, hsp⟩ => ⟨I1.kIn, ?_⟩) he hpl
  have hsp : sp p vs H1 Q E0 := by
    have z : sp p (vs ++ []) H1 Q E0 := hsp
    rwa [List.append_nil] at z
  have hl : us.length = ps.length := by
    rw [← r.length]
    exact F.len _ _ _ _ _ hsp
  have bd := hb s1 us I1.kIn (by rw [List.append_nil]; exact hl)
  rw [List.append_nil] at bd
  have P1 := I1.pin p (List.mem_append.mpr (.inl hp))
  have hpin : PinOk X.stack H1 s1 p := ⟨P1.1, P1.2.1, fun hm => (List.mem_cons.mp (I1.stkSub p.1 hm)).elim P1.2.2.1 P1.2.2.2.1, P1.2.2.2.2⟩
  refine wpAny_call (codeAny_mono (F.run p X.A X.stack s1 H1 ⟨us, []⟩ us vs Q E0 hr hpin I1.env0 bd r hsp) fun rr s' hq => ?_)
  match rr, hq with
  | .error ee, hq => exact hx pins σ H1 s1 ee s' I1 hq
  | .ok (.ret u), hq => exact I1.after hq
  | .ok .next, hq => exact hq.elim
  | .ok .brk, hq => exact hq.elim
  | .ok .cont, hq => exact hq.elim
end
end L2H
namespace L2
open PySem PySem.Spec PyProof.Rows
/-- a class of the top whose __init__ has defaults, dvs those that fill up -/
structure OwnCD (P : Program) (w : World) (K : PySem.W.Frag) (mg : Str → Option Value) (base : Heap) (CX : CXT) (x : Str) (C : Addr) (k : Nat) (ps : List Str) (sp : Sp) (dvs : List V) : Prop where
  ex : ∃ (f : Addr) (fd : FuncData) (ds : List Value), FnOk P w K mg base CX k f fd ps sp ∧ Mk K C f ∧ mg x = some (.ref C) ∧ Binds K fd ps ds ∧ Vals dvs ds
section
variable {X : Cx} {CX : CXT} {x : Str} {k : Nat} {ps : List Str} {sp : Sp} {e : Expr} {es : List Expr} {t : TA} {p pos : Pos} {C : Addr} {dvs : List V}
theorem pe_newD (O : OwnCD X.prog X.w X.K X.mg X.base CX x C k ps sp dvs) (hr : Room (k + 1) X.A) (hx : Passes CX X E0) (ha : PA X (e :: es) t) (hg : Gl X x := by rfl) (hdb : (x == ("__debug__" : Str)) = false := by decide)
    (he : starEach (e :: es) X.env = (false, eval e X.env) :: starEach es X.env := by rfl) (hpl : (backTo pos (starEach es X.env)).any (·.1) = false := by rfl) : PE X (.Call (.Name x p) (e :: es) [] pos) (tMake C sp dvs E0 t) := by
  obtain ⟨f, fd, ds, F, M, hm, hb, hv⟩ := O.ex
  exact pe_make M F hr hg hm hb hv hx ha hdb he hpl
end
end L2

set_option Elab.async false
set_option maxRecDepth 100000
set_option maxHeartbeats 4000000
/-! a op b op c op d -/
namespace L2
open PySem PySem.Spec PyProof.Rows
def tCh3 (r r' r2 : R2) (ta tb tc td : TE) : TE := fun σ H Q => ta σ H fun x H1 => tb σ H1 fun y H2 => r x y H2 fun z H3 => ∃ k, z = .bl k ∧
  (if k = true then tc σ H3 fun u H4 => r' y u H4 fun z' H5 => ∃ k', z' = .bl k' ∧ (if k' = true then td σ H5 fun v H6 => r2 u v H6 Q else Q (.bl false) H5) else Q (.bl false) H3)
section
variable {X : Cx} {a b c d : Expr} {pos : Pos} {ta tb tc td : TE} {op op' op2 : CmpOp} {r r' r2 : R2}
theorem pe_chain3 (ho : OpR X (compareOp op) r) (ho' : OpR X (compareOp op') r') (ho2 : OpR X (compareOp op2) r2) (ha : PE X a ta) (hb : PE X b tb) (hc : PE X c tc) (hd : PE X d td)
    (hm : lastMarks [op, op', op2] [b, c, d] = false := by with_unfolding_all rfl) : PE X (.Compare a [op, op', op2] [b, c, d] pos) (tCh3 r r' r2 ta tb tc td) := by
  refine ⟨fun pins s σ H Q I h => ?_⟩
  refine Compare_chain (thn (ha.run pins s σ H _ I h) fun v s1 ⟨x, H1, I1, r1, q1⟩ => chain_link (thn (hb.run pins s1 σ H1 _ I1 q1) fun u s2 ⟨y, H2, I2, r2', q2⟩ =>
    thn (ho pins s2 σ H2 x y v u _ I2 r1 r2' q2) fun e s3 ⟨z, H3, I3, r3, k, ez, q3⟩ => ?_)) hm
  subst ez
  cases r3
  refine wpAny_truthy_bool ?_
  cases k with
  | false => exact ite_ff ⟨.bl false, H3, I3, rfl, q3⟩
  | true =>
    refine ite_tt (chain_link (thn (hc.run pins s3 σ H3 _ I3 q3) fun u2 s4 ⟨z4, H4, I4, r4, q4⟩ => thn (ho' pins s4 σ H4 y z4 u u2 _ I4 r2' r4 q4) fun e5 s5 ⟨z5, H5, I5, r5, k5, ez5, q5⟩ => ?_))
    subst ez5
    cases r5
    refine wpAny_truthy_bool ?_
    cases k5 with
    | false => exact ite_ff ⟨.bl false, H5, I5, rfl, q5⟩
    | true => exact ite_tt (chain_last (thn (hd.run pins s5 σ H5 _ I5 q5) fun u6 s6 ⟨z6, H6, I6, r6, q6⟩ => ho2 pins s6 σ H6 z4 z6 u2 u6 Q I6 r4 r6 q6))
theorem pt_chain3 (ho : OpR X (compareOp op) r) (ho' : OpR X (compareOp op') r') (ho2 : OpR X (compareOp op2) r2) (ha : PE X a ta) (hb : PE X b tb) (hc : PE X c tc) (hd : PE X d td)
    (hm : lastMarks [op, op', op2] [b, c, d] = false := by with_unfolding_all rfl) : PT X (.Compare a [op, op', op2] [b, c, d] pos) (tTest (tCh3 r r' r2 ta tb tc td)) := by
  refine ⟨fun pins s σ H Q I h => ?_⟩
  refine isTrue_chain (thn (ha.run pins s σ H _ I h) fun v s1 ⟨x, H1, I1, r1, q1⟩ => test_link (thn (hb.run pins s1 σ H1 _ I1 q1) fun u s2 ⟨y, H2, I2, r2', q2⟩ =>
    thn (ho pins s2 σ H2 x y v u _ I2 r1 r2' q2) fun e s3 ⟨z, H3, I3, r3, k, ez, q3⟩ => ?_)) hm
  subst ez
  cases r3
  refine wpAny_truthy_bool ?_
  cases k with
  | false =>
    obtain ⟨k', e', q'⟩ := q3
    cases e'
    exact ite_ff ⟨H3, I3, q'⟩
  | true =>
    refine ite_tt (test_link (thn (hc.run pins s3 σ H3 _ I3 q3) fun u2 s4 ⟨z4, H4, I4, r4, q4⟩ => thn (ho' pins s4 σ H4 y z4 u u2 _ I4 r2' r4 q4) fun e5 s5 ⟨z5, H5, I5, r5, k5, ez5, q5⟩ => ?_))
    subst ez5
    cases r5
    refine wpAny_truthy_bool ?_
    cases k5 with
    | false =>
      obtain ⟨k', e', q'⟩ := q5
      cases e'
      exact ite_ff ⟨H5, I5, q'⟩
    | true =>
      refine ite_tt (test_last (thn (hd.run pins s5 σ H5 _ I5 q5) fun u6 s6 ⟨z6, H6, I6, r6, q6⟩ => thn (ho2 pins s6 σ H6 z4 z6 u2 u6 _ I6 r4 r6 q6) fun e7 s7 ⟨z7, H7, I7, r7, k7, ez7, q7⟩ => ?_))
      subst ez7
      cases r7
      exact wpAny_truthy_bool ⟨H7, I7, q7⟩
end
end L2
namespace L2
open PySem PySem.Spec PyProof.Rows
def numV : V → Bool | .int _ => true | _ => false
section
variable {K : PySem.W.Frag} {σ : St} {H : Hp} {p : Addr} {xs : List V} {te : TE} {tt : TT} {j : Nat} {vs : List Nat} {Q : VK} {v : V} {d : PyData}
theorem num_dp (h : Dp K H v d) : (isIntD d && !isBoolD d) = numV v := by cases h <;> rfl
theorem non_dp (h : Dp K H v d) : decide (v = .non) = isNoneD d := by cases h <;> simp [isNoneD]
/-- [f(x) for x in xs if b(x)] over a list or a tuple wherever it stands, what is tested and made only adding to the heap -/
theorem lc_sqG {Qd : Addr → Hp → Prop} {f : V → V} {b : V → Bool} (hx : SqL K H p xs ∨ SqT K H p xs) (hz : xs.length < sizeLine) (hw : ∀ x, wipe ((wipe σ vs).set j (some x)) vs = wipe σ vs)
    (ht : ∀ x ∈ xs, ∀ H', Ext H H' → ∀ Q : Bool → Hp → Prop, (∀ H'', Ext H' H'' → Q (b x) H'') → tt ((wipe σ vs).set j (some x)) H' Q)
    (he : ∀ x ∈ xs, b x = true → ∀ H', Ext H H' → ∀ Q : VK, (∀ H'', Ext H' H'' → Q (f x) H'') → te ((wipe σ vs).set j (some x)) H' Q)
    (q : ∀ D H', H D = none → Ext H H' → H' D = some (.lst ((xs.filter b).map f)) → Qd D H') :
    ((∃ xs, SqL K H p xs) ∧ (fun J H1 => ∀ D, H1 D = none → ∃ W : Nat → Nat → Hp → Prop, (∃ m, W 0 m (upd H1 D (.lst []))) ∧ ∀ i m H, W i m H →
      (J.stop i H ∧ Qd D H) ∨ (J.go i H ∧ ∃ Nx : Hp → Prop, (∀ H', Nx H' → ∃ m', m' < m ∧ W (i + 1) m' H') ∧ ∀ x H', J.yld i H x H' → gName j x (wipe σ vs) H' fun σ2 H2 => wipe σ2 vs = wipe σ vs ∧ tt σ2 H2 fun b H3 =>
        if b = true then te σ2 H3 fun y H4 => ∃ acc, H4 D = some (.lst acc) ∧ acc.length < sizeLine ∧ Nx (upd H4 D (.lst (acc ++ [y]))) else Nx H3)) (Itl K p) H) ∨
    ((∃ xs, SqT K H p xs) ∧ (fun J H1 => ∀ D, H1 D = none → ∃ W : Nat → Nat → Hp → Prop, (∃ m, W 0 m (upd H1 D (.lst []))) ∧ ∀ i m H, W i m H →
      (J.stop i H ∧ Qd D H) ∨ (J.go i H ∧ ∃ Nx : Hp → Prop, (∀ H', Nx H' → ∃ m', m' < m ∧ W (i + 1) m' H') ∧ ∀ x H', J.yld i H x H' → gName j x (wipe σ vs) H' fun σ2 H2 => wipe σ2 vs = wipe σ vs ∧ tt σ2 H2 fun b H3 =>
        if b = true then te σ2 H3 fun y H4 => ∃ acc, H4 D = some (.lst acc) ∧ acc.length < sizeLine ∧ Nx (upd H4 D (.lst (acc ++ [y]))) else Nx H3)) (Itt K p) H) := by
  have turn : ∀ (D : Addr), H D = none → ∀ i x H', xs[i]? = some x → (Ext H H' ∧ H' D = some (.lst (((xs.take i).filter b).map f))) → gName j x (wipe σ vs) H' fun σ2 H2 => wipe σ2 vs = wipe σ vs ∧ tt σ2 H2 fun b' H3 =>
      if b' = true then te σ2 H3 fun y H4 => ∃ acc, H4 D = some (.lst acc) ∧ acc.length < sizeLine ∧ (Ext H (upd H4 D (.lst (acc ++ [y]))) ∧ upd H4 D (.lst (acc ++ [y])) D = some (.lst (((xs.take (i + 1)).filter b).map f))) else (Ext H H3 ∧ H3 D = some (.lst (((xs.take (i + 1)).filter b).map f))) := by
    intro D hD i x H' hi pv
    obtain ⟨e, hl⟩ := pv
    have hm : x ∈ xs := List.mem_of_getElem? hi
    refine ⟨hw x, ht x hm H' e _ fun H3 e3 => ?_⟩
    have hl3 : H3 D = some (.lst (((xs.take i).filter b).map f)) := e3 _ _ hl
    cases hb : b x with
    | true =>
      refine iteT (he x hm hb H3 (e.trans e3) _ fun H4 e4 => ⟨_, e4 _ _ hl3, ?_, ext_mut ((e.trans e3).trans e4) hD, ?_⟩)
      · rw [List.length_map]
        refine Nat.lt_of_le_of_lt (Nat.le_trans (List.length_filter_le _ _) ?_) hz
        exact List.length_take_le' _ _
      · rw [upd_same, take_snoc hi, List.filter_append, List.map_append]
        simp [hb]
    | false =>
      refine iteF ⟨e.trans e3, ?_⟩
      rw [hl3, take_snoc hi, List.filter_append, List.map_append]
      simp [hb]
  have fin : ∀ D, H D = none → ∀ H', (Ext H H' ∧ H' D = some (.lst (((xs.take xs.length).filter b).map f))) → Qd D H' := fun D hD H' pv => by
    rw [List.take_length] at pv
    exact q D H' hD pv.1 pv.2
  rcases hx with hx | hx
  · refine .inl ⟨⟨xs, hx⟩, fun D hD => lc_list (xs := xs) (fun i H' => Ext H H' ∧ H' D = some (.lst (((xs.take i).filter b).map f))) ⟨Ext.upd hD, upd_same⟩ (fun i H' _ pv => hx.ext pv.1) (fun i x H' hi pv => turn D hD i x H' hi pv) (fun H' pv => fin D hD H' pv)⟩
  · refine .inr ⟨⟨xs, hx⟩, fun D hD => lc_tup (xs := xs) (fun i H' => Ext H H' ∧ H' D = some (.lst (((xs.take i).filter b).map f))) ⟨Ext.upd hD, upd_same⟩ (fun i H' _ pv => hx.ext pv.1) (fun i x H' hi pv => turn D hD i x H' hi pv) (fun H' pv => fin D hD H' pv)⟩
end
end L2

set_option Elab.async false
set_option maxRecDepth 100000
set_option maxHeartbeats 4000000
namespace L2
open PySem PySem.Spec PyProof.Rows
section
variable {X : Cx} {m : Str} {k : Nat} {ps : List Str} {sp : Sp} {e o : Expr} {es : List Expr} {t : TA} {ta : TE} {pos apos : Pos} {C : Addr} {W : WX}
/-- o.m(e, ..) that may raise; W is wished for what it raises -/
theorem pe_ownMS {pl : Sem Bool} (O : OwnM X.prog X.w X.K X.mg X.base (L2.CX X.prog X.w) C m k ps sp) (he : PE X o ta) (c : Cls X.K C) (hr : Room k X.A) (tk : Takes X W) (ha : PA X (e :: es) t)
    (hst : starEach (e :: es) X.env = (false, eval e X.env) :: starEach es X.env := by rfl) (hpl : (backTo pos (starEach es X.env)).any (·.1) = false := by rfl)
    (ht : eval (.Call (.Attribute o m apos) (e :: es) [] pos) X.env = (do
      let ov ← eval o X.env
      standAt apos.atName
      let (f, first) ← holding [ov] (getMethod ov m pl)
      callWith pos f first (backTo pos (starEach (e :: es) X.env)) (backToKw pos (keywordEach [] X.env))) := by rfl) :
    PE X (.Call (.Attribute o m apos) (e :: es) [] pos) (tMethSD C m sp [] (WE W) ta t) := by
  obtain ⟨f, fd, F, M, _, hb⟩ := O.ex
  exact pe_methSD he c M F hr hb .nil (fun σ => passAt tk σ) ha hst hpl ht
theorem PE.imp {ex : Expr} {t1 t2 : TE} (h : PE X ex t1) (i : ∀ σ H Q, t2 σ H Q → t1 σ H Q) : PE X ex t2 := ⟨fun pins s σ H Q I z => h.run pins s σ H Q I (i σ H Q z)⟩
end
end L2

set_option Elab.async false
set_option linter.all false
set_option maxRecDepth 100000
set_option maxHeartbeats 4000000
/-! tuples of own objects, compared by their own ==, whichever the answer -/
namespace GQ
open PySem PySem.SeqAt
open AutoSeq1 (wpAny_loadPart')
open MeetsSeq MeetsSeq2 MeetsSeq3 SeqRoads2
section
variable {prog : Program} {w : World} {A : Around} {R : Result → Shared → Prop}
/-- the places one by one: I goes on, J at the first two that differ -/
theorem tup_eqB (la lb : Addr) (xs ys : Array Value) (n n2 : Nat) (dd dd2 : Option Addr) (sl sl2 : Array (Option Value)) (hsz : xs.size = ys.size) (I : Nat → Shared → Prop) (J : Shared → Prop)
    (turn : ∀ i (h1 : i < xs.size) (h2 : i < ys.size) s, I i s → wpAny (model prog w) A.in1 (eqBool xs[i] ys[i]) (fun r s' => (r = true ∧ I (i + 1) s') ∨ (r = false ∧ J s')) (fun e s' => R (.error e) s') s)
    (finT : ∀ s, I xs.size s → R (.ok (.ret (.bool true))) s) (finF : ∀ s, J s → R (.ok (.ret (.bool false))) s) {s : Shared}
    (hla : s.heap.get? la = some { cls := .type "tuple", dict := dd, data := .seq xs n, slots := sl }) (hlb : s.heap.get? lb = some { cls := .type "tuple", dict := dd2, data := .seq ys n2, slots := sl2 }) (h : I 0 s) :
    wpAny (model prog w) A.in1 (Builtin.«tuple.__eq__» ⟨[.ref la, .ref lb], []⟩) (FinOf prog w A R) (fun e s' => R (.error e) s') s := by
  have f2 := AutoSeq1.sub_tuple_tuple
  have hZ : (xs.toList.zip ys.toList).length = xs.size := by simp [hsz]
  have h0 := h
  obtain ⟨hp, g, d, tk, os⟩ := s
  wp_walk using wpAny_loadPart' hla, wpAny_loadPart' hlb, wpAny_forIn_list _ (fun rest b s' => b.1 = none ∧ ∃ i, rest = (xs.toList.zip ys.toList).drop i ∧ i ≤ xs.size ∧ I i s') _
  case turn =>
    rintro ⟨y, x⟩ rest b s' ⟨hb', i, hz, hi, hI⟩
    have hlt : i < (xs.toList.zip ys.toList).length := by
      rcases Nat.lt_or_ge i (xs.toList.zip ys.toList).length with h' | h'
      · exact h'
      · rw [List.drop_of_length_le h'] at hz
        cases hz
    have h1 : i < xs.size := hZ ▸ hlt
    have h2 : i < ys.size := hsz ▸ h1
    rw [List.drop_eq_getElem_cons hlt] at hz
    injection hz with hyx hrest
    have hy : y = xs[i] := by
      have q := congrArg Prod.fst hyx
      simpa using q
    have hx : x = ys[i] := by
      have q := congrArg Prod.snd hyx
      simpa using q
    subst hy hx
    refine wpAny_bind (wpAny_mono (turn i h1 h2 s' hI) (fun r s2 q2 => ?_) fun _ _ x => x)
    rcases q2 with ⟨hr, q2⟩ | ⟨hr, q2⟩
    · subst hr
      wp_walk
      exact ⟨rfl, i + 1, hrest, h1, q2⟩
    · subst hr
      have hR : R (.ok (.ret (.bool false))) s2 := finF s2 q2
      wp_walk
      exact hR
  case fin =>
    rintro ⟨b1, b2⟩ s' ⟨hb', i, hz, hi, hI⟩
    simp only at hb'
    subst hb'
    have hge : xs.size ≤ i := by
      rcases Nat.lt_or_ge i (xs.toList.zip ys.toList).length with h' | h'
      · rw [List.drop_eq_getElem_cons h'] at hz
        cases hz
      · exact hZ ▸ h'
    have hi' : i = xs.size := by omega
    have hR : R (.ok (.ret (.bool true))) s' := finT s' (hi' ▸ hI)
    wp_walk
    simpa [Builtin.Tuple.tupleCompareSizes, hsz] using hR
  case h =>
    exact ⟨rfl, 0, rfl, Nat.zero_le _, h0⟩
/-- the same for != -/
theorem tup_neB (la lb : Addr) (xs ys : Array Value) (n n2 : Nat) (dd dd2 : Option Addr) (sl sl2 : Array (Option Value)) (hsz : xs.size = ys.size) (I : Nat → Shared → Prop) (J : Shared → Prop)
    (turn : ∀ i (h1 : i < xs.size) (h2 : i < ys.size) s, I i s → wpAny (model prog w) A.in1 (eqBool xs[i] ys[i]) (fun r s' => (r = true ∧ I (i + 1) s') ∨ (r = false ∧ J s')) (fun e s' => R (.error e) s') s)
    (finT : ∀ s, I xs.size s → R (.ok (.ret (.bool false))) s) (finF : ∀ s, J s → R (.ok (.ret (.bool true))) s) {s : Shared}
    (hla : s.heap.get? la = some { cls := .type "tuple", dict := dd, data := .seq xs n, slots := sl }) (hlb : s.heap.get? lb = some { cls := .type "tuple", dict := dd2, data := .seq ys n2, slots := sl2 }) (h : I 0 s) :
    wpAny (model prog w) A.in1 (Builtin.«tuple.__ne__» ⟨[.ref la, .ref lb], []⟩) (FinOf prog w A R) (fun e s' => R (.error e) s') s := by
  have f2 := AutoSeq1.sub_tuple_tuple
  have hZ : (xs.toList.zip ys.toList).length = xs.size := by simp [hsz]
  have h0 := h
  obtain ⟨hp, g, d, tk, os⟩ := s
  wp_walk using wpAny_loadPart' hla, wpAny_loadPart' hlb, wpAny_forIn_list _ (fun rest b s' => b.1 = none ∧ ∃ i, rest = (xs.toList.zip ys.toList).drop i ∧ i ≤ xs.size ∧ I i s') _
  case turn =>
    rintro ⟨y, x⟩ rest b s' ⟨hb', i, hz, hi, hI⟩
    have hlt : i < (xs.toList.zip ys.toList).length := by
      rcases Nat.lt_or_ge i (xs.toList.zip ys.toList).length with h' | h'
      · exact h'
      · rw [List.drop_of_length_le h'] at hz
        cases hz
    have h1 : i < xs.size := hZ ▸ hlt
    have h2 : i < ys.size := hsz ▸ h1
    rw [List.drop_eq_getElem_cons hlt] at hz
    injection hz with hyx hrest
    have hy : y = xs[i] := by
      have q := congrArg Prod.fst hyx
      simpa using q
    have hx : x = ys[i] := by
      have q := congrArg Prod.snd hyx
      simpa using q
    subst hy hx
    refine wpAny_bind (wpAny_mono (turn i h1 h2 s' hI) (fun r s2 q2 => ?_) fun _ _ x => x)
    rcases q2 with ⟨hr, q2⟩ | ⟨hr, q2⟩
    · subst hr
      wp_walk
      exact ⟨rfl, i + 1, hrest, h1, q2⟩
    · subst hr
      have hR : R (.ok (.ret (.bool true))) s2 := finF s2 q2
      wp_walk
      exact hR
  case fin =>
    rintro ⟨b1, b2⟩ s' ⟨hb', i, hz, hi, hI⟩
    simp only at hb'
    subst hb'
    have hge : xs.size ≤ i := by
      rcases Nat.lt_or_ge i (xs.toList.zip ys.toList).length with h' | h'
      · rw [List.drop_eq_getElem_cons h'] at hz
        cases hz
      · exact hZ ▸ h'
    have hi' : i = xs.size := by omega
    have hR : R (.ok (.ret (.bool false))) s' := finT s' (hi' ▸ hI)
    wp_walk
    simpa [Builtin.Tuple.tupleCompareSizes, bne, hsz] using hR
  case h =>
    exact ⟨rfl, 0, rfl, Nat.zero_le _, h0⟩
end
end GQ
namespace GQ
open PySem PySem.SeqAt
section
variable {prog : Program} {w : World} {A : Around} {E : Value → Shared → Prop} {s : Shared}
theorem rc_tupB {la lb : Addr} {xs ys : Array Value} {Q : Value → Shared → Prop} (hsz : xs.size = ys.size) (hu : A.units < cLine) (I : Nat → Shared → Prop) (J : Shared → Prop) (hla : s.heap.IsTuple la xs) (hlb : s.heap.IsTuple lb ys)
    (turn : ∀ i (h1 : i < xs.size) (h2 : i < ys.size) s, I i s → wpAny (model prog w) A.in1 (eqBool xs[i] ys[i]) (fun r s' => (r = true ∧ I (i + 1) s') ∨ (r = false ∧ J s')) E s)
    (finT : ∀ s, I xs.size s → Q (.bool true) s) (finF : ∀ s, J s → Q (.bool false) s) (h : I 0 s) : wpAny (model prog w) A (richCompare .Eq (.ref la) (.ref lb)) Q E s := by
  obtain ⟨⟨cls, dd, data, sl⟩, ho, hc, n, hd⟩ := id hla
  obtain ⟨⟨cls2, dd2, data2, sl2⟩, ho2, hc2, n2, hd2⟩ := id hlb
  simp only at hc hd hc2 hd2
  subst hc hd hc2 hd2
  refine wpAny_richCompare_same_room (op := .Eq) ⟨_, ho, rfl⟩ ⟨_, ho2, rfl⟩ F.slot_tuple_eq (call_here F.slot_tuple_eq ⟨_, ho, rfl⟩ F.entry_tuple_eq (F.args_tuple_eq_2 _ _) ?_) hu
  exact tup_eqB (R := wants (fun v s' => v ≠ .notImplemented ∧ Q v s') E) la lb xs ys n n2 dd dd2 sl sl2 hsz I J turn (fun s' q => ⟨(fun x => nomatch x), finT s' q⟩) (fun s' q => ⟨(fun x => nomatch x), finF s' q⟩) ho ho2 h
theorem rc_tupNB {la lb : Addr} {xs ys : Array Value} {Q : Value → Shared → Prop} (hsz : xs.size = ys.size) (hu : A.units < cLine) (I : Nat → Shared → Prop) (J : Shared → Prop) (hla : s.heap.IsTuple la xs) (hlb : s.heap.IsTuple lb ys)
    (turn : ∀ i (h1 : i < xs.size) (h2 : i < ys.size) s, I i s → wpAny (model prog w) A.in1 (eqBool xs[i] ys[i]) (fun r s' => (r = true ∧ I (i + 1) s') ∨ (r = false ∧ J s')) E s)
    (finT : ∀ s, I xs.size s → Q (.bool false) s) (finF : ∀ s, J s → Q (.bool true) s) (h : I 0 s) : wpAny (model prog w) A (richCompare .NotEq (.ref la) (.ref lb)) Q E s := by
  obtain ⟨⟨cls, dd, data, sl⟩, ho, hc, n, hd⟩ := id hla
  obtain ⟨⟨cls2, dd2, data2, sl2⟩, ho2, hc2, n2, hd2⟩ := id hlb
  simp only at hc hd hc2 hd2
  subst hc hd hc2 hd2
  refine wpAny_richCompare_same_room (op := .NotEq) ⟨_, ho, rfl⟩ ⟨_, ho2, rfl⟩ F.slot_tuple_ne (call_here F.slot_tuple_ne ⟨_, ho, rfl⟩ F.entry_tuple_ne (F.args_tuple_ne_2 _ _) ?_) hu
  exact tup_neB (R := wants (fun v s' => v ≠ .notImplemented ∧ Q v s') E) la lb xs ys n n2 dd dd2 sl sl2 hsz I J turn (fun s' q => ⟨(fun x => nomatch x), finT s' q⟩) (fun s' q => ⟨(fun x => nomatch x), finF s' q⟩) ho ho2 h
end
end GQ
namespace L2
open PySem PySem.Spec PyProof.Rows
/-- how two values compare, by the abstract heap -/
abbrev EqvB := V → V → Hp → Bool → Prop
def MonB (D : EqvB) : Prop := ∀ x y H H' k, Ext H H' → D x y H k → D x y H' k
def EqB (X : Cx) (n : Nat) (D : EqvB) : Prop :=
  ∀ (A : Around) (pins : List (Addr × Obj)) (s : Shared) (σ : St) (H : Hp) (x y : V) (u v : Value) (k : Bool), Sub X n A → Inv X pins σ H s → RelV x u → RelV y v → D x y H k →
    wpAny (model X.prog X.w) A (eqBool u v) (fun r s' => r = k ∧ ∃ H', Inv X pins σ H' s' ∧ Ext H H') X.xe s
def RcB (X : Cx) (n : Nat) (D : EqvB) : Prop :=
  ∀ (A : Around) (pins : List (Addr × Obj)) (s : Shared) (σ : St) (H : Hp) (x y : V) (u v : Value) (k : Bool), Sub X n A → Inv X pins σ H s → RelV x u → RelV y v → D x y H k →
    wpAny (model X.prog X.w) A (richCompare .Eq u v) (fun r s' => r = .bool k ∧ ∃ H', Inv X pins σ H' s' ∧ Ext H H') X.xe s
section
variable {X : Cx} {n : Nat} {D : EqvB}
/-- instances of the class at C -/
def DInsB (C : Addr) (R : Addr → Addr → Hp → Bool → Prop) : EqvB := fun x y H k => ∃ a b dx dy fs gs, x = .ref a ∧ y = .ref b ∧ H a = some (.ins C dx fs) ∧ H b = some (.ins C dy gs) ∧ R a b H k
def spEqB (R : Addr → Addr → Hp → Bool → Prop) : Sp := fun vs H Q _ => ∃ a b k, vs = [.ref a, .ref b] ∧ R a b H k ∧ ∀ H', Ext H H' → Q (.bl k) H'
theorem rcB_ins {CX : CXT} {C f : Addr} {fd : FuncData} {ps : List Str} {R : Addr → Addr → Hp → Bool → Prop} {E : XK} (F : FnOk X.prog X.w X.K X.mg X.base CX n f fd ps (spEqB R))
    (hs : PySem.W.findIn X.K (.ref C) "__eq__" = some (some (.ref f))) (hf : PySem.W.isFn X.K (.ref f) = true) (hb : Binds X.K fd ps []) (hx : Passes CX X E) : RcB X n (DInsB C R) := by
  intro A pins s σ H x y u v k sb I rx ry d
  obtain ⟨a, b, dx, dy, fs, gs, rfl, rfl, ha, hb', hr⟩ := d
  cases rx
  cases ry
  obtain ⟨mA, J, _⟩ := ins_get I.hok ha
  obtain ⟨mB, J', _⟩ := ins_get I.hok hb'
  obtain ⟨od, J, _⟩ := J.look
  obtain ⟨od', J', _⟩ := J'.look
  obtain ⟨m, hF⟩ := I.fr
  refine PySem.W.cmp_K (op := .Eq) (tb := .ref C) sb.room.units0 hF I.ok.mod.kin J J'.type (by simp [PySem.W.notFirst]) hs hf ?_
  have hsp : spEqB R [.ref a, .ref b] H (fun v H' => v = .bl k ∧ Ext H H') E := ⟨a, b, k, rfl, hr, fun H' e => ⟨rfl, e⟩⟩
  have e1 := I.env0
  have e0 : Env0 X.prog X.w X.K X.mg X.base A X.stack s H := ⟨by rw [sb.fr]; exact e1.frames, e1.mod, e1.bs, e1.bsz, e1.funs, e1.frf, e1.hok, e1.bare⟩
  have hl := F.len _ _ _ _ hsp
  have bd := hb s [.ref a, .ref b] I.kIn (by simpa using hl)
  have bd' : BindsTo s fd ⟨[.ref a, .ref b], []⟩ (ps.zip [.ref a, .ref b]) := by simpa using bd
  refine wpAny_call (codeAny_mono (F.run A X.stack s H ⟨[.ref a, .ref b], []⟩ [.ref a, .ref b] [.ref a, .ref b] _ E sb.room e0 bd' (.cons rfl (.cons rfl .nil)) hsp) fun r s' hq => ?_)
  match r, hq with
  | .error e, hq => exact hx pins σ H s e s' I hq
  | .ok (.ret z), hq =>
    obtain ⟨zv, H', I', rz, ez, ex⟩ := I.after hq
    subst ez
    cases rz
    exact ⟨rfl, H', I', ex⟩
  | .ok .next, hq => exact hq.elim
  | .ok .brk, hq => exact hq.elim
  | .ok .cont, hq => exact hq.elim
/-- within a tuple: the same object is equal to itself -/
theorem RcB.eqB (h : RcB X n D) (hr : ∀ x y H k, D x y H k → ∃ a b, x = .ref a ∧ y = .ref b ∧ (a = b → k = true)) : EqB X n D := by
  intro A pins s σ H x y u v k sb I rx ry d
  obtain ⟨a, b, rfl, rfl, hk⟩ := hr _ _ _ _ d
  cases rx
  cases ry
  by_cases hab : a = b
  · have hk' := hk hab
    subst hab hk'
    exact SeqAt.EqAt.same (A := A) (s := s) (.ref a) X.prog X.w X.xe _ ⟨rfl, H, I, Ext.rfl'⟩
  · refine GQ.eqBool_refG hab (wpAny_mono (h A pins s σ H (.ref a) (.ref b) _ _ k sb I rfl rfl d) (fun r s' q => ?_) fun _ _ x => x)
    obtain ⟨hr', q⟩ := q
    exact ⟨k, hr', rfl, q⟩
/-- tuples of one length, place by place; ks the answers -/
def DTupB (K : PySem.W.Frag) (D : EqvB) : EqvB := fun x y H k => ∃ (a b : Addr) (xs ys : List V) (ks : List Bool), x = .ref a ∧ y = .ref b ∧ SqT K H a xs ∧ SqT K H b ys ∧ xs.length = ys.length ∧ ks.length = xs.length ∧
  (∀ (i : Nat) x y c, xs[i]? = some x → ys[i]? = some y → ks[i]? = some c → D x y H c) ∧ k = ks.all id
theorem all_take {ks : List Bool} {i : Nat} (h : ∀ j, j < i → ks[j]? = some true) (hi : ks.length ≤ i) : ks.all id = true := by
  rw [List.all_eq_true]
  intro c hc
  obtain ⟨j, hj⟩ := List.mem_iff_getElem?.mp hc
  have hjl := (List.getElem?_eq_some_iff.mp hj).1
  have q := h j (Nat.lt_of_lt_of_le hjl hi)
  rw [hj] at q
  cases q
  rfl
theorem rcB_tup (hD : MonB D) (h : EqB X n D) : RcB X (n + 1) (DTupB X.K D) := by
  intro A pins s σ H x y u v k sb I rx ry d
  obtain ⟨a, b, xs, ys, ks, rfl, rfl, ha, hb, hlen, hks, hp, rfl⟩ := d
  cases rx
  cases ry
  obtain ⟨its, r, e, z⟩ := I.tuple ha
  obtain ⟨its2, r2, e2, z2⟩ := I.tuple hb
  have l1 := r.length
  have l2 := r2.length
  have hsz : its.toArray.size = its2.toArray.size := by rw [List.size_toArray, List.size_toArray, ← l1, ← l2]; exact hlen
  refine GQ.rc_tupB hsz sb.room.units0 (fun i s' => (∃ H', Inv X pins σ H' s' ∧ Ext H H') ∧ ∀ j, j < i → ks[j]? = some true) (fun s' => (∃ H', Inv X pins σ H' s' ∧ Ext H H') ∧ ks.all id = false) e e2 (fun i h1 h2 s' q => ?_) (fun s' q => ?_) (fun s' q => ?_) ⟨⟨H, I, Ext.rfl'⟩, fun j hj => absurd hj (Nat.not_lt_zero _)⟩
  · obtain ⟨⟨H1, I1, e1⟩, hk⟩ := q
    have h1' : i < its.length := by simpa using h1
    have h2' : i < its2.length := by simpa using h2
    have g1 : its[i]? = some its.toArray[i] := by rw [List.getElem?_eq_getElem h1'] <;> simp
    have g2 : its2[i]? = some its2.toArray[i] := by rw [List.getElem?_eq_getElem h2'] <;> simp
    have k1 : i < xs.length := by omega
    have k2 : i < ys.length := by omega
    have k3 : i < ks.length := by omega
    obtain ⟨uu, hu, ru⟩ := r.get (List.getElem?_eq_getElem k1)
    obtain ⟨vv, hv, rv⟩ := r2.get (List.getElem?_eq_getElem k2)
    rw [g1] at hu
    rw [g2] at hv
    rw [Option.some.inj hu, Option.some.inj hv]
    refine wpAny_mono (h A.in1 pins s' σ H1 _ _ uu vv ks[i] sb.in1 I1 ru rv (hD _ _ _ _ _ e1 (hp i _ _ _ (List.getElem?_eq_getElem k1) (List.getElem?_eq_getElem k2) (List.getElem?_eq_getElem k3)))) (fun rr s2 q2 => ?_) fun _ _ x => x
    obtain ⟨hr, H2, I2, e2'⟩ := q2
    have hki : ks[i]? = some rr := by rw [hr]; exact List.getElem?_eq_getElem k3
    cases rr with
    | true =>
      refine .inl ⟨rfl, ⟨H2, I2, e1.trans e2'⟩, fun j hj => ?_⟩
      rcases Nat.lt_succ_iff_lt_or_eq.mp hj with hj | rfl
      · exact hk j hj
      · exact hki
    | false =>
      refine .inr ⟨rfl, ⟨H2, I2, e1.trans e2'⟩, ?_⟩
      rw [List.all_eq_false]
      exact ⟨false, List.mem_of_getElem? hki, by decide⟩
  · obtain ⟨q1, hk⟩ := q
    exact ⟨by rw [all_take hk (by simp; omega)], q1⟩
  · obtain ⟨q1, hk⟩ := q
    exact ⟨by rw [hk], q1⟩
/-- the same for !=, told by what == would say -/
def RcNB (X : Cx) (n : Nat) (D : EqvB) : Prop :=
  ∀ (A : Around) (pins : List (Addr × Obj)) (s : Shared) (σ : St) (H : Hp) (x y : V) (u v : Value) (k : Bool), Sub X n A → Inv X pins σ H s → RelV x u → RelV y v → D x y H k →
    wpAny (model X.prog X.w) A (richCompare .NotEq u v) (fun r s' => r = .bool (!k) ∧ ∃ H', Inv X pins σ H' s' ∧ Ext H H') X.xe s
theorem rcNB_tup (hD : MonB D) (h : EqB X n D) : RcNB X (n + 1) (DTupB X.K D) := by
  intro A pins s σ H x y u v k sb I rx ry d
  obtain ⟨a, b, xs, ys, ks, rfl, rfl, ha, hb, hlen, hks, hp, rfl⟩ := d
  cases rx
  cases ry
  obtain ⟨its, r, e, z⟩ := I.tuple ha
  obtain ⟨its2, r2, e2, z2⟩ := I.tuple hb
  have l1 := r.length
  have l2 := r2.length
  have hsz : its.toArray.size = its2.toArray.size := by rw [List.size_toArray, List.size_toArray, ← l1, ← l2]; exact hlen
  refine GQ.rc_tupNB hsz sb.room.units0 (fun i s' => (∃ H', Inv X pins σ H' s' ∧ Ext H H') ∧ ∀ j, j < i → ks[j]? = some true) (fun s' => (∃ H', Inv X pins σ H' s' ∧ Ext H H') ∧ ks.all id = false) e e2 (fun i h1 h2 s' q => ?_) (fun s' q => ?_) (fun s' q => ?_) ⟨⟨H, I, Ext.rfl'⟩, fun j hj => absurd hj (Nat.not_lt_zero _)⟩
  · obtain ⟨⟨H1, I1, e1⟩, hk⟩ := q
    have h1' : i < its.length := by simpa using h1
    have h2' : i < its2.length := by simpa using h2
    have g1 : its[i]? = some its.toArray[i] := by rw [List.getElem?_eq_getElem h1'] <;> simp
    have g2 : its2[i]? = some its2.toArray[i] := by rw [List.getElem?_eq_getElem h2'] <;> simp
    have k1 : i < xs.length := by omega
    have k2 : i < ys.length := by omega
    have k3 : i < ks.length := by omega
    obtain ⟨uu, hu, ru⟩ := r.get (List.getElem?_eq_getElem k1)
    obtain ⟨vv, hv, rv⟩ := r2.get (List.getElem?_eq_getElem k2)
    rw [g1] at hu
    rw [g2] at hv
    rw [Option.some.inj hu, Option.some.inj hv]
    refine wpAny_mono (h A.in1 pins s' σ H1 _ _ uu vv ks[i] sb.in1 I1 ru rv (hD _ _ _ _ _ e1 (hp i _ _ _ (List.getElem?_eq_getElem k1) (List.getElem?_eq_getElem k2) (List.getElem?_eq_getElem k3)))) (fun rr s2 q2 => ?_) fun _ _ x => x
    obtain ⟨hr, H2, I2, e2'⟩ := q2
    have hki : ks[i]? = some rr := by rw [hr]; exact List.getElem?_eq_getElem k3
    cases rr with
    | true =>
      refine .inl ⟨rfl, ⟨H2, I2, e1.trans e2'⟩, fun j hj => ?_⟩
      rcases Nat.lt_succ_iff_lt_or_eq.mp hj with hj | rfl
      · exact hk j hj
      · exact hki
    | false =>
      refine .inr ⟨rfl, ⟨H2, I2, e1.trans e2'⟩, ?_⟩
      rw [List.all_eq_false]
      exact ⟨false, List.mem_of_getElem? hki, by decide⟩
  · obtain ⟨q1, hk⟩ := q
    exact ⟨by rw [all_take hk (by simp; omega)]; rfl, q1⟩
  · obtain ⟨q1, hk⟩ := q
    exact ⟨by rw [hk]; rfl, q1⟩
/-- x == y, x != y as expressions -/
def rEqB (D : EqvB) : R2 := fun x y H Q => ∃ k, D x y H k ∧ ∀ H', Ext H H' → Q (.bl k) H'
def rNeB (D : EqvB) : R2 := fun x y H Q => ∃ k, D x y H k ∧ ∀ H', Ext H H' → Q (.bl (!k)) H'
theorem op_eqB (h : RcB X n D) (hr : Room n X.A) : OpR X (compareOp .Eq) (rEqB D) := by
  intro pins s σ H x y v u Q I rx ry hq
  obtain ⟨k, d, q⟩ := hq
  show wpAny (model X.prog X.w) X.A (richCompare .Eq v u) (EP X pins σ Q) X.xe s
  refine wpAny_mono (h X.A pins s σ H x y v u k ⟨hr, rfl⟩ I rx ry d) (fun r s' z => ?_) fun _ _ x => x
  obtain ⟨hr', H', I', e⟩ := z
  subst hr'
  exact ⟨.bl k, H', I', rfl, q H' e⟩
theorem op_neB (h : RcNB X n D) (hr : Room n X.A) : OpR X (compareOp .NotEq) (rNeB D) := by
  intro pins s σ H x y v u Q I rx ry hq
  obtain ⟨k, d, q⟩ := hq
  show wpAny (model X.prog X.w) X.A (richCompare .NotEq v u) (EP X pins σ Q) X.xe s
  refine wpAny_mono (h X.A pins s σ H x y v u k ⟨hr, rfl⟩ I rx ry d) (fun r s' z => ?_) fun _ _ x => x
  obtain ⟨hr', H', I', e⟩ := z
  subst hr'
  exact ⟨.bl (!k), H', I', rfl, q H' e⟩
end
end L2

set_option Elab.async false
set_option maxRecDepth 100000
set_option maxHeartbeats 4000000
namespace K16
open PySem PySem.Spec PyProof.Rows L2
def top (i : Nat) : Stmt := PySem.Challenge.pw_wholeline_k16_races_built.main.body.getD i (.Pass ⟨0, 0, 0, 0⟩)
abbrev s_BadPart_init : Stmt := inClass (top 3) 0
abbrev nm_BadPart_init : List Str := ["self", "part"]
abbrev pm_BadPart_init : List Str := ["self", "part"]
theorem sc_BadPart_init : FnScope nm_BadPart_init pm_BadPart_init (defScope s_BadPart_init) := ⟨rfl, rfl, rfl, by decide +kernel, rfl, by decide +kernel, by decide +kernel⟩

abbrev s_BadBox_init : Stmt := inClass (top 4) 0
abbrev nm_BadBox_init : List Str := ["self", "index"]
abbrev pm_BadBox_init : List Str := ["self", "index"]
theorem sc_BadBox_init : FnScope nm_BadBox_init pm_BadBox_init (defScope s_BadBox_init) := ⟨rfl, rfl, rfl, by decide +kernel, rfl, by decide +kernel, by decide +kernel⟩

abbrev s_NoWay_init : Stmt := inClass (top 5) 0
abbrev nm_NoWay_init : List Str := ["self", "way"]
abbrev pm_NoWay_init : List Str := ["self", "way"]
theorem sc_NoWay_init : FnScope nm_NoWay_init pm_NoWay_init (defScope s_NoWay_init) := ⟨rfl, rfl, rfl, by decide +kernel, rfl, by decide +kernel, by decide +kernel⟩

abbrev s_is_integer : Stmt := top 8
abbrev nm_is_integer : List Str := ["value"]
abbrev pm_is_integer : List Str := ["value"]
theorem sc_is_integer : FnScope nm_is_integer pm_is_integer (defScope s_is_integer) := ⟨rfl, rfl, rfl, by decide +kernel, rfl, by decide +kernel, by decide +kernel⟩

abbrev s_is_between : Stmt := top 9
abbrev nm_is_between : List Str := ["value", "low", "high"]
abbrev pm_is_between : List Str := ["value", "low", "high"]
theorem sc_is_between : FnScope nm_is_between pm_is_between (defScope s_is_between) := ⟨rfl, rfl, rfl, by decide +kernel, rfl, by decide +kernel, by decide +kernel⟩

abbrev s_is_index : Stmt := top 10
abbrev nm_is_index : List Str := ["value", "many"]
abbrev pm_is_index : List Str := ["value", "many"]
theorem sc_is_index : FnScope nm_is_index pm_is_index (defScope s_is_index) := ⟨rfl, rfl, rfl, by decide +kernel, rfl, by decide +kernel, by decide +kernel⟩

abbrev s_is_list : Stmt := top 11
abbrev nm_is_list : List Str := ["value"]
abbrev pm_is_list : List Str := ["value"]
theorem sc_is_list : FnScope nm_is_list pm_is_list (defScope s_is_list) := ⟨rfl, rfl, rfl, by decide +kernel, rfl, by decide +kernel, by decide +kernel⟩

abbrev s_is_list_of : Stmt := top 12
abbrev nm_is_list_of : List Str := ["value", "low", "high"]
abbrev pm_is_list_of : List Str := ["value", "low", "high"]
theorem sc_is_list_of : FnScope nm_is_list_of pm_is_list_of (defScope s_is_list_of) := ⟨rfl, rfl, rfl, by decide +kernel, rfl, by decide +kernel, by decide +kernel⟩

abbrev s_is_tuple_of : Stmt := top 13
abbrev nm_is_tuple_of : List Str := ["value", "many"]
abbrev pm_is_tuple_of : List Str := ["value", "many"]
theorem sc_is_tuple_of : FnScope nm_is_tuple_of pm_is_tuple_of (defScope s_is_tuple_of) := ⟨rfl, rfl, rfl, by decide +kernel, rfl, by decide +kernel, by decide +kernel⟩

abbrev s_is_begin : Stmt := top 20
abbrev nm_is_begin : List Str := ["value"]
abbrev pm_is_begin : List Str := ["value"]
theorem sc_is_begin : FnScope nm_is_begin pm_is_begin (defScope s_is_begin) := ⟨rfl, rfl, rfl, by decide +kernel, rfl, by decide +kernel, by decide +kernel⟩

abbrev s_are_delays : Stmt := top 21
abbrev nm_are_delays : List Str := ["least", "most"]
abbrev pm_are_delays : List Str := ["least", "most"]
theorem sc_are_delays : FnScope nm_are_delays pm_are_delays (defScope s_are_delays) := ⟨rfl, rfl, rfl, by decide +kernel, rfl, by decide +kernel, by decide +kernel⟩

abbrev s_is_box : Stmt := top 22
abbrev nm_is_box : List Str := ["value", "least", "most", "near", "far", "shortest", "longest"]
abbrev pm_is_box : List Str := ["value", "least", "most"]
theorem sc_is_box : FnScope nm_is_box pm_is_box (defScope s_is_box) := ⟨rfl, rfl, rfl, by decide +kernel, rfl, by decide +kernel, by decide +kernel⟩

abbrev s_Way_init : Stmt := inClass (top 23) 0
abbrev nm_Way_init : List Str := ["self", "begin", "least", "most", "boxes", "index", "box"]
abbrev pm_Way_init : List Str := ["self", "begin", "least", "most", "boxes"]
theorem sc_Way_init : FnScope nm_Way_init pm_Way_init (defScope s_Way_init) := ⟨rfl, rfl, rfl, by decide +kernel, rfl, by decide +kernel, by decide +kernel⟩

abbrev s_Way_window : Stmt := inClass (top 23) 1
abbrev nm_Way_window : List Str := ["self"]
abbrev pm_Way_window : List Str := ["self"]
theorem sc_Way_window : FnScope nm_Way_window pm_Way_window (defScope s_Way_window) := ⟨rfl, rfl, rfl, by decide +kernel, rfl, by decide +kernel, by decide +kernel⟩

abbrev s_Way_eq : Stmt := inClass (top 23) 3
abbrev nm_Way_eq : List Str := ["self", "other"]
abbrev pm_Way_eq : List Str := ["self", "other"]
theorem sc_Way_eq : FnScope nm_Way_eq pm_Way_eq (defScope s_Way_eq) := ⟨rfl, rfl, rfl, by decide +kernel, rfl, by decide +kernel, by decide +kernel⟩

abbrev s_check_ways : Stmt := top 27
abbrev nm_check_ways : List Str := ["ways", "way"]
abbrev pm_check_ways : List Str := ["ways"]
theorem sc_check_ways : FnScope nm_check_ways pm_check_ways (defScope s_check_ways) := ⟨rfl, rfl, rfl, by decide +kernel, rfl, by decide +kernel, by decide +kernel⟩

abbrev s_check_silent : Stmt := top 28
abbrev nm_check_silent : List Str := ["silent"]
abbrev pm_check_silent : List Str := ["silent"]
theorem sc_check_silent : FnScope nm_check_silent pm_check_silent (defScope s_check_silent) := ⟨rfl, rfl, rfl, by decide +kernel, rfl, by decide +kernel, by decide +kernel⟩

abbrev s_check_way : Stmt := top 29
abbrev nm_check_way : List Str := ["race", "way"]
abbrev pm_check_way : List Str := ["race", "way"]
theorem sc_check_way : FnScope nm_check_way pm_check_way (defScope s_check_way) := ⟨rfl, rfl, rfl, by decide +kernel, rfl, by decide +kernel, by decide +kernel⟩

abbrev s_Race_init : Stmt := inClass (top 30) 0
abbrev nm_Race_init : List Str := ["self", "ways", "silent"]
abbrev pm_Race_init : List Str := ["self", "ways", "silent"]
theorem sc_Race_init : FnScope nm_Race_init pm_Race_init (defScope s_Race_init) := ⟨rfl, rfl, rfl, by decide +kernel, rfl, by decide +kernel, by decide +kernel⟩

abbrev s_Race_planned : Stmt := inClass (top 30) 1
abbrev nm_Race_planned : List Str := ["self", "way", "told"]
abbrev pm_Race_planned : List Str := ["self"]
theorem sc_Race_planned : FnScope nm_Race_planned pm_Race_planned (defScope s_Race_planned) := ⟨rfl, rfl, rfl, by decide +kernel, rfl, by decide +kernel, by decide +kernel⟩

abbrev s_Race_hurried : Stmt := inClass (top 30) 2
abbrev nm_Race_hurried : List Str := ["self", "way", "at", "ends", "other", "end"]
abbrev pm_Race_hurried : List Str := ["self", "way", "at"]
theorem sc_Race_hurried : FnScope nm_Race_hurried pm_Race_hurried (defScope s_Race_hurried) := ⟨rfl, rfl, rfl, by decide +kernel, rfl, by decide +kernel, by decide +kernel⟩

abbrev s_Race_can_win : Stmt := inClass (top 30) 3
abbrev nm_Race_can_win : List Str := ["self", "way", "at", "window"]
abbrev pm_Race_can_win : List Str := ["self", "way", "at"]
theorem sc_Race_can_win : FnScope nm_Race_can_win pm_Race_can_win (defScope s_Race_can_win) := ⟨rfl, rfl, rfl, by decide +kernel, rfl, by decide +kernel, by decide +kernel⟩

abbrev s_Race_last_win : Stmt := inClass (top 30) 4
abbrev nm_Race_last_win : List Str := ["self", "way", "window", "moments", "at"]
abbrev pm_Race_last_win : List Str := ["self", "way"]
theorem sc_Race_last_win : FnScope nm_Race_last_win pm_Race_last_win (defScope s_Race_last_win) := ⟨rfl, rfl, rfl, by decide +kernel, rfl, by decide +kernel, by decide +kernel⟩

abbrev s_Race_eq : Stmt := inClass (top 30) 7
abbrev nm_Race_eq : List Str := ["self", "other"]
abbrev pm_Race_eq : List Str := ["self", "other"]
theorem sc_Race_eq : FnScope nm_Race_eq pm_Race_eq (defScope s_Race_eq) := ⟨rfl, rfl, rfl, by decide +kernel, rfl, by decide +kernel, by decide +kernel⟩

abbrev s_check_win : Stmt := top 31
abbrev nm_check_win : List Str := ["race", "way", "at"]
abbrev pm_check_win : List Str := ["race", "way", "at"]
theorem sc_check_win : FnScope nm_check_win pm_check_win (defScope s_check_win) := ⟨rfl, rfl, rfl, by decide +kernel, rfl, by decide +kernel, by decide +kernel⟩

abbrev s_win_run : Stmt := top 33
abbrev nm_win_run : List Str := ["race", "way", "at", "hurried", "entries", "other", "told"]
abbrev pm_win_run : List Str := ["race", "way", "at"]
theorem sc_win_run : FnScope nm_win_run pm_win_run (defScope s_win_run) := ⟨rfl, rfl, rfl, by decide +kernel, rfl, by decide +kernel, by decide +kernel⟩

abbrev s_silent_after : Stmt := top 34
abbrev nm_silent_after : List Str := ["race", "way", "at", "surely", "other"]
abbrev pm_silent_after : List Str := ["race", "way", "at"]
theorem sc_silent_after : FnScope nm_silent_after pm_silent_after (defScope s_silent_after) := ⟨rfl, rfl, rfl, by decide +kernel, rfl, by decide +kernel, by decide +kernel⟩

abbrev s_win_paper : Stmt := top 37
abbrev nm_win_paper : List Str := ["race", "way", "at"]
abbrev pm_win_paper : List Str := ["race", "way", "at"]
theorem sc_win_paper : FnScope nm_win_paper pm_win_paper (defScope s_win_paper) := ⟨rfl, rfl, rfl, by decide +kernel, rfl, by decide +kernel, by decide +kernel⟩

abbrev s__law_draw : Stmt := top 39
abbrev nm__law_draw : List Str := ["_law_state", "_law_limit", "_law_cells", "_law_at", "_law_cell", "_law_mixed"]
abbrev pm__law_draw : List Str := ["_law_state", "_law_limit"]
theorem sc__law_draw : FnScope nm__law_draw pm__law_draw (defScope s__law_draw) := ⟨rfl, rfl, rfl, by decide +kernel, rfl, by decide +kernel, by decide +kernel⟩

abbrev s__law_way : Stmt := top 40
abbrev nm__law_way : List Str := ["_law_state", "_law_begin", "_law_least"]
abbrev pm__law_way : List Str := ["_law_state"]
theorem sc__law_way : FnScope nm__law_way pm__law_way (defScope s__law_way) := ⟨rfl, rfl, rfl, by decide +kernel, rfl, by decide +kernel, by decide +kernel⟩

abbrev s__law_ways : Stmt := top 41
abbrev nm__law_ways : List Str := ["_law_state", "_law_most", "_law_k"]
abbrev pm__law_ways : List Str := ["_law_state", "_law_most"]
theorem sc__law_ways : FnScope nm__law_ways pm__law_ways (defScope s__law_ways) := ⟨rfl, rfl, rfl, by decide +kernel, rfl, by decide +kernel, by decide +kernel⟩

abbrev s__law_made : Stmt := top 42
abbrev nm__law_made : List Str := ["_law_ways_here", "_law_way_here"]
abbrev pm__law_made : List Str := ["_law_ways_here"]
theorem sc__law_made : FnScope nm__law_made pm__law_made (defScope s__law_made) := ⟨rfl, rfl, rfl, by decide +kernel, rfl, by decide +kernel, by decide +kernel⟩

abbrev s__law_called : Stmt := top 43
abbrev nm__law_called : List Str := ["_law_kind", "_law_race", "_law_way_here"]
abbrev pm__law_called : List Str := ["_law_kind", "_law_race", "_law_way_here"]
theorem sc__law_called : FnScope nm__law_called pm__law_called (defScope s__law_called) := ⟨rfl, rfl, rfl, by decide +kernel, rfl, by decide +kernel, by decide +kernel⟩

abbrev s__law_refused : Stmt := top 44
abbrev nm__law_refused : List Str := ["_law_kind", "_law_race", "_law_way_here", "_law_found", "e"]
abbrev pm__law_refused : List Str := ["_law_kind", "_law_race", "_law_way_here"]
theorem sc__law_refused : FnScope nm__law_refused pm__law_refused (defScope s__law_refused) := ⟨rfl, rfl, rfl, by decide +kernel, rfl, by decide +kernel, by decide +kernel⟩

abbrev s__law_ways_refused : Stmt := top 45
abbrev nm__law_ways_refused : List Str := ["_law_race", "_law_count", "_law_way_here", "_law_kind", "_law_told", "_law_no_way"]
abbrev pm__law_ways_refused : List Str := ["_law_race", "_law_count"]
theorem sc__law_ways_refused : FnScope nm__law_ways_refused pm__law_ways_refused (defScope s__law_ways_refused) := ⟨rfl, rfl, rfl, by decide +kernel, rfl, by decide +kernel, by decide +kernel⟩

abbrev s_law : Stmt := top 46
abbrev nm_law : List Str := ["_law_script", "_law_state", "_law_ways_here", "_law_silent", "_law_given", "_law_wrong", "_law_due", "_law_caught", "_law_race", "e", "_law_made_here", "_law_other", "_law_k"]
abbrev pm_law : List Str := ["_law_script"]
theorem sc_law : FnScope nm_law pm_law (defScope s_law) := ⟨rfl, rfl, rfl, by decide +kernel, rfl, by decide +kernel, by decide +kernel⟩

structure Ad where
  (BadPart BadBox NoWay WholeError Way Race T0 : Addr)
structure Txt (K : PySem.W.Frag) (mg : Str → Option Value) (A : Ad) : Prop where
  n_isinstance : mg "isinstance" = none
  n_int : mg "int" = none
  n_bool : mg "bool" = none
  n_list : mg "list" = none
  n_tuple : mg "tuple" = none
  n_len : mg "len" = none
  n_range : mg "range" = none
  n_max : mg "max" = none
  n_enumerate : mg "enumerate" = none
  n_all : mg "all" = none
  g_MOST_BEGIN : ∃ t, mg "MOST_BEGIN" = some (.int 1000 t)
  g_MOST_DELAY : ∃ t, mg "MOST_DELAY" = some (.int 50 t)
  g_MOST_BOXES : ∃ t, mg "MOST_BOXES" = some (.int 3 t)
  g_MOST_KEEP : ∃ t, mg "MOST_KEEP" = some (.int 10000 t)
  g_MOST_WAYS : ∃ t, mg "MOST_WAYS" = some (.int 4 t)
  g_MOST_SILENT : ∃ t, mg "MOST_SILENT" = some (.int 3 t)
  Way : ClsX K mg "Way" A.Way
  w_begin : NoAttr K A.Way "begin"
  w_least : NoAttr K A.Way "least"
  w_most : NoAttr K A.Way "most"
  w_boxes : NoAttr K A.Way "boxes"
  Race : ClsX K mg "Race" A.Race
  r_ways : NoAttr K A.Race "ways"
  r_silent : NoAttr K A.Race "silent"
  BadPart : XAt K mg "BadPart" "part" A.BadPart s_BadPart_init "BadPart.__init__"
  BadBox : XAt K mg "BadBox" "index" A.BadBox s_BadBox_init "BadBox.__init__"
  NoWay : XAt K mg "NoWay" "way" A.NoWay s_NoWay_init "NoWay.__init__"
  g_WholeError : mg "WholeError" = some (.ref A.WholeError)
  x_pp : PySem.W.kitOne K (.ref A.BadPart) (.ref A.BadPart) = some true
  x_nn : PySem.W.kitOne K (.ref A.NoWay) (.ref A.NoWay) = some true
  x_pw : PySem.W.exmOne K (.ref A.BadPart) (.ref A.WholeError) = some true
  x_nw : PySem.W.exmOne K (.ref A.NoWay) (.ref A.WholeError) = some true
  t0 : ∀ H, SqT K H A.T0 []
section
variable {P : Program} {w : World} {K : PySem.W.Frag} {mg : Str → Option Value} {base : Heap} {A : Ad}
theorem ok_xp {f : Addr} {fd : FuncData} (F : Fun K "__init__" "BadPart.__init__" s_BadPart_init f fd) (T : Txt K mg A) : FnOk P w K mg base CX0 1 f fd ["self", "part"] (spXI A.BadPart "part") := by
  refine F.ok sc_BadPart_init (fun vs H Q E h => ?_) (fun cdv A' outer s H vs Q E hr h => ?_)
  · obtain ⟨a, y, rfl, _⟩ := h
    rfl
  · obtain ⟨a, y, rfl, ha, q⟩ := h
    refine ⟨_, pss_one (ps_ost (pv 0) (pv 1)), ?_⟩
    exact ⟨_, rfl, _, rfl, a, A.BadPart, rfl, T.BadPart.ox, T.BadPart.noA, .inl ⟨ha, fun dx h1 h2 => q dx h1 h2⟩⟩
theorem ok_xb {f : Addr} {fd : FuncData} (F : Fun K "__init__" "BadBox.__init__" s_BadBox_init f fd) (T : Txt K mg A) : FnOk P w K mg base CX0 1 f fd ["self", "index"] (spXI A.BadBox "index") := by
  refine F.ok sc_BadBox_init (fun vs H Q E h => ?_) (fun cdv A' outer s H vs Q E hr h => ?_)
  · obtain ⟨a, y, rfl, _⟩ := h
    rfl
  · obtain ⟨a, y, rfl, ha, q⟩ := h
    refine ⟨_, pss_one (ps_ost (pv 0) (pv 1)), ?_⟩
    exact ⟨_, rfl, _, rfl, a, A.BadBox, rfl, T.BadBox.ox, T.BadBox.noA, .inl ⟨ha, fun dx h1 h2 => q dx h1 h2⟩⟩
theorem ok_xn {f : Addr} {fd : FuncData} (F : Fun K "__init__" "NoWay.__init__" s_NoWay_init f fd) (T : Txt K mg A) : FnOk P w K mg base CX0 1 f fd ["self", "way"] (spXI A.NoWay "way") := by
  refine F.ok sc_NoWay_init (fun vs H Q E h => ?_) (fun cdv A' outer s H vs Q E hr h => ?_)
  · obtain ⟨a, y, rfl, _⟩ := h
    rfl
  · obtain ⟨a, y, rfl, ha, q⟩ := h
    refine ⟨_, pss_one (ps_ost (pv 0) (pv 1)), ?_⟩
    exact ⟨_, rfl, _, rfl, a, A.NoWay, rfl, T.NoWay.ox, T.NoWay.noA, .inl ⟨ha, fun dx h1 h2 => q dx h1 h2⟩⟩
/-! kinds, told by the data -/
def spInteger (K : PySem.W.Frag) : Sp := fun vs H Q _ => ∃ v d, vs = [v] ∧ Dp K H v d ∧ Q (.bl (isIntD d && !isBoolD d)) H
theorem ok_integer {f : Addr} {fd : FuncData} (F : Fun K "is_integer" "is_integer" s_is_integer f fd) (T : Txt K mg A) : FnOk P w K mg base CX0 1 f fd pm_is_integer (spInteger K) := by
  refine F.ok sc_is_integer (fun vs H Q E h => ?_) (fun cdv A' outer s H vs Q E hr h => ?_)
  · obtain ⟨v, k, rfl, _⟩ := h
    rfl
  · obtain ⟨v, d, rfl, hk, q⟩ := h
    refine ⟨_, pss_one (ps_ret (pe_and (pe_callB call_isi (by rfl) T.n_isinstance (by decide +kernel) (pa_cons (pv 0) (pa_cons (pe_bltn (v := .ty "int") (by rfl) T.n_int (by decide +kernel) rfl) pa_nil))) (pe_one (pe_not (pe_callB call_isi (by rfl) T.n_isinstance (by decide +kernel) (pa_cons (pv 0) (pa_cons (pe_bltn (v := .ty "bool") (by rfl) T.n_bool (by decide +kernel) rfl) pa_nil))))))), ?_⟩
    refine ⟨v, rfl, v, .ty "int", .type (tnD d), .type "int", isIntD d, rfl, .ty _, dp_ty hk, kd_int, _, rfl, ?_⟩
    cases h1 : isIntD d with
    | true =>
      rw [h1] at q
      exact iteT ⟨v, rfl, v, .ty "bool", .type (tnD d), .type "bool", isBoolD d, rfl, .ty _, dp_ty hk, kd_bool, _, rfl, q⟩
    | false =>
      rw [h1] at q
      exact iteF q
def spBetween (K : PySem.W.Frag) : Sp := fun vs H Q _ => ∃ v d a b, vs = [v, .int a, .int b] ∧ Dp K H v d ∧ Q (.bl (betD d a b)) H
theorem ok_between {f : Addr} {fd : FuncData} (F : Fun K "is_between" "is_between" s_is_between f fd) (O_is_integer : Own P w K mg base CX0 "is_integer" 1 pm_is_integer (spInteger K)) : FnOk P w K mg base CX0 2 f fd pm_is_between (spBetween K) := by
  refine F.ok sc_is_between (fun vs H Q E h => ?_) (fun cdv A' outer s H vs Q E hr h => ?_)
  · obtain ⟨v, k, a, b, rfl, _⟩ := h
    rfl
  · obtain ⟨v, d, a, b, rfl, hk, q⟩ := h
    refine ⟨_, pss_one (ps_ret (pe_and (pe_own O_is_integer (hr.mono (by decide)) pass0 (pa_cons (pv 0) pa_nil)) (pe_one (pe_chain op_le op_le (pv 1) (pv 0) (pv 2))))), ?_⟩
    refine ⟨v, rfl, v, d, rfl, hk, _, rfl, ?_⟩
    cases h1 : (isIntD d && !isBoolD d) with
    | true =>
      obtain ⟨n, rfl⟩ := int_yes h1
      obtain rfl := dp_int hk
      refine iteT ⟨_, rfl, _, rfl, _, _, rfl, rfl, _, rfl, ?_⟩
      rw [bet_int] at q
      cases h2 : decide (a ≤ n) with
      | true =>
        rw [h2] at q
        exact iteT ⟨_, rfl, _, _, rfl, rfl, q⟩
      | false =>
        rw [h2] at q
        exact iteF q
    | false =>
      rw [bet_not h1] at q
      exact iteF q
def spIsList (K : PySem.W.Frag) : Sp := fun vs H Q _ => ∃ v t k, vs = [v] ∧ (∀ H', Ext H H' → TyX K H' v t) ∧ PySem.W.kitAny K t [.type "list", .type "tuple"] = some k ∧ ∀ H', Ext H H' → Q (.bl k) H'
theorem ok_isList {f : Addr} {fd : FuncData} (F : Fun K "is_list" "is_list" s_is_list f fd) (T : Txt K mg A) : FnOk P w K mg base CX0 1 f fd pm_is_list (spIsList K) := by
  refine F.ok sc_is_list (fun vs H Q E h => ?_) (fun cdv A' outer s H vs Q E hr h => ?_)
  · obtain ⟨v, t, k, rfl, _⟩ := h
    rfl
  · obtain ⟨v, t, k, rfl, hk, hs, q⟩ := h
    refine ⟨_, pss_one (ps_ret (pe_callB call_isiT (by rfl) T.n_isinstance (by decide +kernel) (pa_cons (pv 0) (pa_cons (pe_tup (pa_cons (pe_bltn (v := .ty "list") (by rfl) T.n_list (by decide +kernel) rfl) (pa_cons (pe_bltn (v := .ty "tuple") (by rfl) T.n_tuple (by decide +kernel) rfl) pa_nil))) pa_nil)))), ?_⟩
    refine ⟨v, rfl, by show 2 ≤ sizeLine; decide, fun p hp => ?_⟩
    exact ⟨v, p, [.ty "list", .ty "tuple"], t, [.type "list", .type "tuple"], k, rfl, upd_same, .cons (.ty _) (.cons (.ty _) .nil), hk _ (Ext.upd hp), hs, q _ (Ext.upd hp)⟩
def spListOf (K : PySem.W.Frag) : Sp := fun vs H Q _ => ∃ v t k a b xs, vs = [v, .int a, .int b] ∧ (∀ H', Ext H H' → TyX K H' v t) ∧ PySem.W.kitAny K t [.type "list", .type "tuple"] = some k ∧ (k = true → ∃ p, v = .ref p ∧ (SqL K H p xs ∨ SqT K H p xs)) ∧
  ∀ H', Ext H H' → Q (.bl (k && (decide (a ≤ (xs.length : Int)) && decide ((xs.length : Int) ≤ b)))) H'
theorem dp_lenD {H : Hp} {xs : List V} {ds : List PyData} {d : PyData} (ha : DpAll K H xs ds) (h : d = .list ds ∨ d = .tuple ds) : lenD d = xs.length := by
  rw [dps_len ha]
  rcases h with rfl | rfl <;> rfl
theorem ok_listOf {f : Addr} {fd : FuncData} (F : Fun K "is_list_of" "is_list_of" s_is_list_of f fd) (T : Txt K mg A) (O_is_list : Own P w K mg base CX0 "is_list" 1 pm_is_list (spIsList K)) : FnOk P w K mg base CX0 2 f fd pm_is_list_of (spListOf K) := by
  refine F.ok sc_is_list_of (fun vs H Q E h => ?_) (fun cdv A' outer s H vs Q E hr h => ?_)
  · obtain ⟨v, t, k, a, b, xs, rfl, _⟩ := h
    rfl
  · obtain ⟨v, t, k, a, b, xs, rfl, hk, hs, hq, q⟩ := h
    refine ⟨_, pss_one (ps_ret (pe_and (pe_own O_is_list (hr.mono (by decide)) pass0 (pa_cons (pv 0) pa_nil)) (pe_one (pe_chain op_le op_le (pv 1) (pe_callB call_len_seq (by rfl) T.n_len (by decide +kernel) (pa_cons (pv 0) pa_nil)) (pv 2))))), ?_⟩
    refine ⟨v, rfl, v, t, k, rfl, hk, hs, fun H1 e1 => ⟨_, rfl, ?_⟩⟩
    have q1 := q H1 e1
    cases k with
    | false => exact iteF q1
    | true =>
      obtain ⟨p, rfl, hx⟩ := hq rfl
      refine iteT ⟨_, rfl, _, rfl, p, xs, rfl, hx.imp (fun h => h.ext e1) (fun h => h.ext e1), _, _, rfl, rfl, _, rfl, ?_⟩
      cases h2 : decide (a ≤ (xs.length : Int)) with
      | true =>
        rw [h2] at q1
        exact iteT ⟨_, rfl, _, _, rfl, rfl, q1⟩
      | false =>
        rw [h2] at q1
        exact iteF q1
/-- from the data -/
theorem listOf_key {H : Hp} {v : V} {d : PyData} (h : Dp K H v d) : ∃ t xs, (∀ H', Ext H H' → TyX K H' v t) ∧ PySem.W.kitAny K t [.type "list", .type "tuple"] = some (isSeqD d) ∧ (isSeqD d = true → ∃ p, v = .ref p ∧ (SqL K H p xs ∨ SqT K H p xs)) ∧
    ∀ a b : Int, (isSeqD d && (decide (a ≤ (xs.length : Int)) && decide ((xs.length : Int) ≤ b))) = (isSeqD d && (decide (a ≤ (lenD d : Int)) && decide ((lenD d : Int) ≤ b))) := by
  cases hs : isSeqD d with
  | false => exact ⟨_, [], fun H' e => dp_ty (dp_ext e _ _ h), by rw [kd_seq, hs], (fun z => nomatch z), fun a b => rfl⟩
  | true =>
    obtain ⟨p, xs, ds, rfl, hx, ha, hd⟩ := dp_seq h hs
    exact ⟨_, xs, fun H' e => dp_ty (dp_ext e _ _ h), by rw [kd_seq, hs], fun _ => ⟨p, rfl, hx⟩, fun a b => by rw [dp_lenD ha hd]⟩
def spTupleOf (K : PySem.W.Frag) : Sp := fun vs H Q _ => ∃ v d a, vs = [v, .int a] ∧ Dp K H v d ∧ Q (.bl (isTupD d && decide ((lenD d : Int) = a))) H
theorem dvi {a b : Int} : decide (V.int a = V.int b) = decide (a = b) := by simp
theorem ok_tupleOf {f : Addr} {fd : FuncData} (F : Fun K "is_tuple_of" "is_tuple_of" s_is_tuple_of f fd) (T : Txt K mg A) : FnOk P w K mg base CX0 1 f fd pm_is_tuple_of (spTupleOf K) := by
  refine F.ok sc_is_tuple_of (fun vs H Q E h => ?_) (fun cdv A' outer s H vs Q E hr h => ?_)
  · obtain ⟨v, d, a, rfl, _⟩ := h
    rfl
  · obtain ⟨v, d, a, rfl, hk, q⟩ := h
    refine ⟨_, pss_one (ps_ret (pe_and (pe_callB call_isi (by rfl) T.n_isinstance (by decide +kernel) (pa_cons (pv 0) (pa_cons (pe_bltn (v := .ty "tuple") (by rfl) T.n_tuple (by decide +kernel) rfl) pa_nil))) (pe_one (pe_cmpR op_eq (pe_callB call_len_seq (by rfl) T.n_len (by decide +kernel) (pa_cons (pv 0) pa_nil)) (pv 1) (nomark _))))), ?_⟩
    refine ⟨v, rfl, v, .ty "tuple", .type (tnD d), .type "tuple", isTupD d, rfl, .ty _, dp_ty hk, kd_tup, _, rfl, ?_⟩
    cases h1 : isTupD d with
    | true =>
      rw [h1] at q
      obtain ⟨p, xs, ds, rfl, hx, ha, hd⟩ := dp_tup hk h1
      rw [dp_lenD ha (.inr hd)] at q
      refine iteT ⟨_, rfl, p, xs, rfl, .inr hx, _, rfl, rfl, ?_⟩
      show Q (.bl (decide (V.int (xs.length : Int) = V.int a))) H
      rw [dvi]
      exact q
    | false =>
      rw [h1] at q
      exact iteF q
/-! what a way is made of -/
def beginD (d : PyData) : Bool := isNoneD d || betD d 0 1000
def spBegin (K : PySem.W.Frag) : Sp := fun vs H Q _ => ∃ v d, vs = [v] ∧ Dp K H v d ∧ Q (.bl (beginD d)) H
theorem ok_begin {f : Addr} {fd : FuncData} (F : Fun K "is_begin" "is_begin" s_is_begin f fd) (T : Txt K mg A) (O_is_between : Own P w K mg base CX0 "is_between" 2 pm_is_between (spBetween K)) : FnOk P w K mg base CX0 3 f fd pm_is_begin (spBegin K) := by
  refine F.ok sc_is_begin (fun vs H Q E h => ?_) (fun cdv A' outer s H vs Q E hr h => ?_)
  · obtain ⟨v, d, rfl, _⟩ := h
    rfl
  · obtain ⟨v, d, rfl, hk, q⟩ := h
    refine ⟨_, pss_one (ps_ret (pe_or (pe_cmpR op_isN (pv 0) (pe_non) (nomark _)) (pe_one (pe_own O_is_between (hr.mono (by decide)) pass0 (pa_cons (pv 0) (pa_cons (pe_int) (pa_cons (pe_gint T.g_MOST_BEGIN) pa_nil))))))), ?_⟩
    cases hk with
    | non => exact ⟨_, rfl, rfl, _, rfl, iteT q⟩
    | bl b => exact ⟨_, rfl, rfl, _, rfl, iteF ⟨_, rfl, _, _, 0, 1000, rfl, .bl b, q⟩⟩
    | int i => exact ⟨_, rfl, rfl, _, rfl, iteF ⟨_, rfl, _, _, 0, 1000, rfl, .int i, q⟩⟩
    | str b => exact ⟨_, rfl, rfl, _, rfl, iteF ⟨_, rfl, _, _, 0, 1000, rfl, .str b, q⟩⟩
    | lst a b => exact ⟨_, rfl, rfl, _, rfl, iteF ⟨_, rfl, _, _, 0, 1000, rfl, .lst a b, q⟩⟩
    | tup a b => exact ⟨_, rfl, rfl, _, rfl, iteF ⟨_, rfl, _, _, 0, 1000, rfl, .tup a b, q⟩⟩
def delaysD : PyData → PyData → Bool
  | .int l, .int m => decide (1 ≤ l) && decide (l ≤ m) && decide (m ≤ 50)
  | _, _ => false
def spDelays (K : PySem.W.Frag) : Sp := fun vs H Q _ => ∃ v u d e, vs = [v, u] ∧ Dp K H v d ∧ Dp K H u e ∧ Q (.bl (delaysD d e)) H
theorem delays_m {d e : PyData} (h : betD e 1 50 = false) : delaysD d e = false := by
  cases e <;> first | (cases d <;> rfl) | skip
  rename_i m
  cases d <;> first | rfl | skip
  rename_i l
  rw [bet_int] at h
  simp only [delaysD]
  simp at h ⊢
  omega
theorem delays_l {d : PyData} {m : Int} (h1 : 1 ≤ m ∧ m ≤ 50) : delaysD d (.int m) = betD d 1 m := by
  cases d <;> first | rfl | skip
  rename_i l
  rw [bet_int]
  simp only [delaysD]
  rw [decide_eq_true h1.2, Bool.and_true]
theorem ok_delays {f : Addr} {fd : FuncData} (F : Fun K "are_delays" "are_delays" s_are_delays f fd) (T : Txt K mg A) (O_is_between : Own P w K mg base CX0 "is_between" 2 pm_is_between (spBetween K)) : FnOk P w K mg base CX0 3 f fd pm_are_delays (spDelays K) := by
  refine F.ok sc_are_delays (fun vs H Q E h => ?_) (fun cdv A' outer s H vs Q E hr h => ?_)
  · obtain ⟨v, u, d, e, rfl, _⟩ := h
    rfl
  · obtain ⟨v, u, d, e, rfl, hk, hu, q⟩ := h
    refine ⟨_, pss_one (ps_ret (pe_and (pe_own O_is_between (hr.mono (by decide)) pass0 (pa_cons (pv 1) (pa_cons (pe_int) (pa_cons (pe_gint T.g_MOST_DELAY) pa_nil)))) (pe_one (pe_own O_is_between (hr.mono (by decide)) pass0 (pa_cons (pv 0) (pa_cons (pe_int) (pa_cons (pv 1) pa_nil))))))), ?_⟩
    refine ⟨u, rfl, u, e, 1, 50, rfl, hu, _, rfl, ?_⟩
    cases h1 : betD e 1 50 with
    | false =>
      rw [delays_m h1] at q
      exact iteF q
    | true =>
      obtain ⟨m, rfl, m1, m2⟩ := bet_yes h1
      obtain rfl := dp_int hu
      rw [delays_l ⟨m1, m2⟩] at q
      exact iteT ⟨v, rfl, _, rfl, v, d, 1, m, rfl, hk, q⟩
end
end K16

set_option Elab.async false
set_option maxRecDepth 100000
set_option maxHeartbeats 4000000
namespace K16
open PySem PySem.Spec PyProof.Rows L2
section
variable {P : Program} {w : World} {K : PySem.W.Frag} {mg : Str → Option Value} {base : Heap} {A : Ad}
def boxD (d : PyData) (l m : Int) : Bool := match d with
  | .tuple [.int n, .int f, .int s, .int g] => decide (0 ≤ n ∧ n ≤ f ∧ f ≤ m ∧ n ≤ l ∧ 1 ≤ s ∧ s ≤ g ∧ g ≤ 10000)
  | _ => false
theorem box_f {a b c d : PyData} {l m : Int} (h : betD b 0 m = false) : boxD (.tuple [a, b, c, d]) l m = false := by
  cases a <;> first | rfl | skip
  cases b <;> first | rfl | skip
  cases c <;> first | rfl | skip
  cases d <;> first | rfl | skip
  rw [bet_int] at h
  simp at h
  simp only [boxD]
  rw [decide_eq_false (by omega)]
theorem box_n {a c d : PyData} {f l m : Int} (h : betD a 0 f = false) : boxD (.tuple [a, .int f, c, d]) l m = false := by
  cases a <;> first | rfl | skip
  cases c <;> first | rfl | skip
  cases d <;> first | rfl | skip
  rw [bet_int] at h
  simp at h
  simp only [boxD]
  rw [decide_eq_false (by omega)]
theorem box_l {c d : PyData} {n f l m : Int} (h : l < n) : boxD (.tuple [.int n, .int f, c, d]) l m = false := by
  cases c <;> first | rfl | skip
  cases d <;> first | rfl | skip
  simp only [boxD]
  rw [decide_eq_false (by omega)]
theorem box_g {c d : PyData} {n f l m : Int} (h : betD d 1 10000 = false) : boxD (.tuple [.int n, .int f, c, d]) l m = false := by
  cases c <;> first | rfl | skip
  cases d <;> first | rfl | skip
  rw [bet_int] at h
  simp at h
  simp only [boxD]
  rw [decide_eq_false (by omega)]
theorem box_s {c : PyData} {n f g l m : Int} (h : 0 ≤ n ∧ n ≤ f ∧ f ≤ m ∧ n ≤ l ∧ g ≤ 10000) : boxD (.tuple [.int n, .int f, c, .int g]) l m = betD c 1 g := by
  cases c <;> first | rfl | skip
  simp only [boxD]
  rw [bet_int, Bool.eq_iff_iff]
  simp
  omega
theorem box_t {d : PyData} {l m : Int} (h : (isTupD d && decide ((lenD d : Int) = 4)) = false) : boxD d l m = false := by
  unfold boxD
  split
  · exact absurd h (by simp [isTupD, lenD])
  · rfl
def spBoxOk (K : PySem.W.Frag) : Sp := fun vs H Q _ => ∃ v d l m, vs = [v, .int l, .int m] ∧ Dp K H v d ∧ Q (.bl (boxD d l m)) H
theorem ok_box {f : Addr} {fd : FuncData} (F : Fun K "is_box" "is_box" s_is_box f fd) (T : Txt K mg A) (O_is_between : Own P w K mg base CX0 "is_between" 2 pm_is_between (spBetween K)) (O_is_tuple_of : Own P w K mg base CX0 "is_tuple_of" 1 pm_is_tuple_of (spTupleOf K)) : FnOk P w K mg base CX0 3 f fd pm_is_box (spBoxOk K) := by
  refine F.ok sc_is_box (fun vs H Q E h => ?_) (fun cdv A' outer s H vs Q E hr h => ?_)
  · obtain ⟨v, d, l, m, rfl, _⟩ := h
    rfl
  · obtain ⟨v, d, l, m, rfl, hk, q⟩ := h
    refine ⟨_, pss_cons (ps_if (pt_not (pt_val (pe_own O_is_tuple_of (hr.mono (by decide)) pass0 (pa_cons (pv 0) (pa_cons (pe_int) pa_nil))))) (pss_one (ps_ret (pe_bl))) (pss_nil))
      (pss_cons (ps_asg (pv 0) (pg_tup rfl (pgs_cons (pg_name (i := 3) sc_is_box.nd rfl (Or.inl rfl)) (pgs_cons (pg_name (i := 4) sc_is_box.nd rfl (Or.inl rfl)) (pgs_cons (pg_name (i := 5) sc_is_box.nd rfl (Or.inl rfl)) (pgs_cons (pg_name (i := 6) sc_is_box.nd rfl (Or.inl rfl)) (pgs_nil)))))))
      (pss_cons (ps_if (PW.pt (pw_or (pt_not (pt_val (pe_own O_is_between (hr.mono (by decide)) pass0 (pa_cons (pv 4) (pa_cons (pe_int) (pa_cons (pv 2) pa_nil)))))) (pw_or (pt_not (pt_val (pe_own O_is_between (hr.mono (by decide)) pass0 (pa_cons (pv 3) (pa_cons (pe_int) (pa_cons (pv 4) pa_nil)))))) (pw_or1 (pt_cmpR op_gt (pv 3) (pv 1) (nomark _)))))) (pss_one (ps_ret (pe_bl))) (pss_nil))
      (pss_one (ps_ret (pe_and (pe_own O_is_between (hr.mono (by decide)) pass0 (pa_cons (pv 6) (pa_cons (pe_int) (pa_cons (pe_gint T.g_MOST_KEEP) pa_nil)))) (pe_one (pe_own O_is_between (hr.mono (by decide)) pass0 (pa_cons (pv 5) (pa_cons (pe_int) (pa_cons (pv 6) pa_nil)))))))))), ?_⟩
    refine ⟨v, rfl, v, d, 4, rfl, hk, _, rfl, ?_⟩
    cases h1 : (isTupD d && decide ((lenD d : Int) = 4)) with
    | false =>
      rw [box_t h1] at q
      exact iteT q
    | true =>
      refine iteF ?_
      rw [Bool.and_eq_true, decide_eq_true_eq] at h1
      obtain ⟨p, xs, ds, rfl, hx, ha, rfl⟩ := dp_tup hk h1.1
      have hl : ds.length = 4 := by
        have z : ((ds.length : Nat) : Int) = 4 := h1.2
        omega
      match ds, hl, ha, q with
      | [da, db, dc, dd], _, ha, q =>
        cases ha with
        | @cons va _ _ _ ha1 ha =>
          cases ha with
          | @cons vb _ _ _ hb1 ha =>
            cases ha with
            | @cons vc _ _ _ hc1 ha =>
              cases ha with
              | @cons vd _ _ _ hd1 ha =>
                cases ha
                refine ⟨_, rfl, p, _, rfl, hx, rfl, ?_⟩
                refine ⟨_, _, rfl, _, _, rfl, _, _, rfl, _, _, rfl, rfl, ?_⟩
                refine ⟨vb, rfl, _, rfl, vb, db, 0, m, rfl, hb1, _, rfl, ?_⟩
                cases h2 : betD db 0 m with
                | false =>
                  rw [box_f h2] at q
                  exact iteT q
                | true =>
                  refine iteF ?_
                  obtain ⟨f, rfl, f0, fm⟩ := bet_yes h2
                  obtain rfl := dp_int hb1
                  refine ⟨va, rfl, _, rfl, va, da, 0, f, rfl, ha1, _, rfl, ?_⟩
                  cases h3 : betD da 0 f with
                  | false =>
                    rw [box_n h3] at q
                    exact iteT q
                  | true =>
                    refine iteF ?_
                    obtain ⟨n, rfl, n0, nf⟩ := bet_yes h3
                    obtain rfl := dp_int ha1
                    refine ⟨_, rfl, _, rfl, _, _, rfl, rfl, _, rfl, ?_⟩
                    by_cases h4 : n > l
                    · rw [decide_eq_true h4]
                      rw [box_l h4] at q
                      exact iteT q
                    · rw [decide_eq_false h4]
                      refine iteF ?_
                      refine ⟨vd, rfl, vd, dd, 1, 10000, rfl, hd1, _, rfl, ?_⟩
                      cases h5 : betD dd 1 10000 with
                      | false =>
                        rw [box_g h5] at q
                        exact iteF q
                      | true =>
                        obtain ⟨g, rfl, g1, g2⟩ := bet_yes h5
                        obtain rfl := dp_int hd1
                        rw [box_s ⟨n0, nf, fm, by omega, g2⟩] at q
                        exact iteT ⟨vc, rfl, _, rfl, vc, dc, 1, g, rfl, hc1, q⟩
/-! ### Way -/
def itemsD : PyData → Option (List PyData) | .list ds => some ds | .tuple ds => some ds | _ => none
/-- what is wrong first: a part's word or a box's place -/
def wayDue (b l m x : PyData) : Option (Str ⊕ Nat) :=
  if beginD b = false then some (.inl "begin") else if delaysD l m = false then some (.inl "delays") else
    if (isSeqD x && (decide ((0 : Int) ≤ (lenD x : Int)) && decide ((lenD x : Int) ≤ 3))) = false then some (.inl "boxes") else
    match l, m, itemsD x with
    | .int l, .int m, some ds => (ds.findIdx? fun d => !boxD d l m).map .inr
    | _, _, _ => none
def wF (b l m x : V) : List (Str × V) := [("begin", b), ("least", l), ("most", m), ("boxes", x)]
/-- a way at p: its begin, delays, and the data of its boxes -/
def WayAt (K : PySem.W.Frag) (A : Ad) (H : Hp) (p : Addr) (b l m : V) (ds : List PyData) : Prop := ∃ dx T xs, H p = some (.ins A.Way dx (wF b l m (.ref T))) ∧ SqT K H T xs ∧ DpAll K H xs ds
def spWayInit (K : PySem.W.Frag) (A : Ad) : Sp := fun vs H Q E => ∃ (p dx : Addr) (vb vl vm vx : V) (b l m x : PyData), vs = [.ref p, vb, vl, vm, vx] ∧ H p = some (.ins A.Way dx []) ∧ Dp K H vb b ∧ Dp K H vl l ∧ Dp K H vm m ∧ Dp K H vx x ∧
  (∀ s, wayDue b l m x = some (.inl s) → ∀ H', Ext H H' → ∀ e, H' e = none → E (.ref A.BadPart) (some e) (upd H' e (.xd [("part", .str s)]))) ∧
  (∀ i, wayDue b l m x = some (.inr i) → ∀ H', Ext H H' → ∀ e, H' e = none → E (.ref A.BadBox) (some e) (upd H' e (.xd [("index", .int (i : Nat))]))) ∧
  (wayDue b l m x = none → ∀ ds H', itemsD x = some ds → (∃ T xs, H' p = some (.ins A.Way dx (wF vb vl vm (.ref T))) ∧ SqT K H' T xs ∧ DpAll K H' xs ds) → (∀ x o, x ≠ p → H x = some o → H' x = some o) → Q .non H')
theorem find_at {ds : List PyData} {f : PyData → Bool} {i : Nat} {d : PyData} (h0 : ∀ (j : Nat) (d : PyData), j < i → ds[j]? = some d → f d = false) (hd : ds[i]? = some d) (h : f d = true) : ds.findIdx? f = some i := by
  induction ds generalizing i with
  | nil => cases hd
  | cons x xs ih =>
    rw [List.findIdx?_cons]
    cases i with
    | zero =>
      cases hd
      rw [h]
      rfl
    | succ i =>
      rw [h0 0 x (Nat.succ_pos _) rfl]
      have z := ih (i := i) (fun j d hj hd => h0 (j + 1) d (Nat.succ_lt_succ hj) hd) hd
      rw [z]
      rfl
theorem find_no {ds : List PyData} {f : PyData → Bool} (h0 : ∀ (j : Nat) (d : PyData), ds[j]? = some d → f d = false) : ds.findIdx? f = none := by
  rw [List.findIdx?_eq_none_iff]
  intro x hx
  obtain ⟨j, hj⟩ := List.mem_iff_getElem?.mp hx
  exact h0 j x hj
theorem delays_yes {d e : PyData} (h : delaysD d e = true) : ∃ l m, d = .int l ∧ e = .int m ∧ 1 ≤ l ∧ l ≤ m ∧ m ≤ 50 := by
  cases d <;> first | cases h | skip
  cases e <;> first | cases h | skip
  simp only [delaysD, Bool.and_eq_true, decide_eq_true_eq] at h
  exact ⟨_, _, rfl, rfl, h.1.1, h.1.2, h.2⟩
section
variable {H H' : Hp} {p a C dx : Addr} {fs : List (Str × V)} {xs : List V}
theorem sqL_mut (hp : H p = some (.ins C dx fs)) (e : ∀ x o, x ≠ p → H x = some o → H' x = some o) (h : SqL K H a xs) : SqL K H' a xs := by
  rcases h with (h | ⟨o, h⟩) | h
  · exact .inl (.inl (e a _ (fun z => by rw [z, hp] at h; cases h) h))
  · exact .inl (.inr ⟨o, e a _ (fun z => by rw [z, hp] at h; cases h) h⟩)
  · exact .inr h
theorem sqT_mut (hp : H p = some (.ins C dx fs)) (e : ∀ x o, x ≠ p → H x = some o → H' x = some o) (h : SqT K H a xs) : SqT K H' a xs := by
  rcases h with (h | ⟨o, h⟩) | h
  · exact .inl (.inl (e a _ (fun z => by rw [z, hp] at h; cases h) h))
  · exact .inl (.inr ⟨o, e a _ (fun z => by rw [z, hp] at h; cases h) h⟩)
  · exact .inr h
mutual
theorem dp_mut (hp : H p = some (.ins C dx fs)) (e : ∀ x o, x ≠ p → H x = some o → H' x = some o) : ∀ (d : PyData) (v : V), Dp K H v d → Dp K H' v d
  | .none, _, h => by cases h; exact .non
  | .bool _, _, h => by cases h; exact .bl _
  | .int _, _, h => by cases h; exact .int _
  | .str _, _, h => by cases h; exact .str _
  | .list ds, _, h => by
    cases h with
    | lst hs ha => exact .lst (sqL_mut hp e hs) (dps_mut hp e ds _ ha)
  | .tuple ds, _, h => by
    cases h with
    | tup hs ha => exact .tup (sqT_mut hp e hs) (dps_mut hp e ds _ ha)
  | .dict _, _, h => by cases h
theorem dps_mut (hp : H p = some (.ins C dx fs)) (e : ∀ x o, x ≠ p → H x = some o → H' x = some o) : ∀ (ds : List PyData) (vs : List V), DpAll K H vs ds → DpAll K H' vs ds
  | [], _, h => by cases h; exact .nil
  | d :: ds, _, h => by
    cases h with
    | cons h1 h2 => exact .cons (dp_mut hp e d _ h1) (dps_mut hp e ds _ h2)
end
end
theorem ok_wayInit {f : Addr} {fd : FuncData} (F : FunD K "__init__" "Way.__init__" (defArgs s_Way_init) (defBody s_Way_init) (defScope s_Way_init) [.ref A.T0] [] f fd) (T : Txt K mg A)
    (O_is_begin : Own P w K mg base CX0 "is_begin" 3 pm_is_begin (spBegin K)) (O_are_delays : Own P w K mg base CX0 "are_delays" 3 pm_are_delays (spDelays K)) (O_is_list_of : Own P w K mg base CX0 "is_list_of" 2 pm_is_list_of (spListOf K))
    (O_is_box : Own P w K mg base CX0 "is_box" 3 pm_is_box (spBoxOk K)) (X_BadPart : XCls P w K mg base "BadPart" "part" A.BadPart) (X_BadBox : XCls P w K mg base "BadBox" "index" A.BadBox) : FnOk P w K mg base (L2.CX P w) 5 f fd pm_Way_init (spWayInit K A) := by
  refine F.ok sc_Way_init (fun vs H Q E h => ?_) (fun cdv A' outer s H vs Q E hr h => ?_)
  · obtain ⟨_, _, _, _, _, _, _, _, _, _, rfl, _⟩ := h
    rfl
  · obtain ⟨p, dx, vb, vl, vm, vx, b, l, m, x, rfl, hp, hb, hl, hm, hx, hEp, hEb, hQ⟩ := h
    refine ⟨_, pss_cons (ps_if (pt_not (pt_val (pe_own O_is_begin (hr.mono (by decide)) pass0 (pa_cons (pv 1) pa_nil)))) (pss_one (ps_raise rfl (takes_of rfl rfl rfl rfl) (pmk_X X_BadPart (hr.mono (by decide)) (pe_str) rfl))) (pss_nil))
      (pss_cons (ps_if (pt_not (pt_val (pe_own O_are_delays (hr.mono (by decide)) pass0 (pa_cons (pv 2) (pa_cons (pv 3) pa_nil))))) (pss_one (ps_raise rfl (takes_of rfl rfl rfl rfl) (pmk_X X_BadPart (hr.mono (by decide)) (pe_str) rfl))) (pss_nil))
      (pss_cons (ps_if (pt_not (pt_val (pe_own O_is_list_of (hr.mono (by decide)) pass0 (pa_cons (pv 4) (pa_cons (pe_int) (pa_cons (pe_gint T.g_MOST_BOXES) pa_nil)))))) (pss_one (ps_raise rfl (takes_of rfl rfl rfl rfl) (pmk_X X_BadPart (hr.mono (by decide)) (pe_str) rfl))) (pss_nil))
      (pss_cons (ps_for (passes_of rfl) rfl (pi_enSq rfl T.n_enumerate (pa_cons (pv 4) pa_nil)) (pg_tup rfl (pgs_cons (pg_name (i := 5) sc_Way_init.nd rfl (Or.inl rfl)) (pgs_cons (pg_name (i := 6) sc_Way_init.nd rfl (Or.inl rfl)) (pgs_nil)))) (pss_one (ps_if (pt_not (pt_val (pe_own O_is_box (hr.mono (by decide)) pass0 (pa_cons (pv 6) (pa_cons (pv 2) (pa_cons (pv 3) pa_nil)))))) (pss_one (ps_raise rfl (takes_of rfl rfl rfl rfl) (pmk_X X_BadBox (hr.mono (by decide)) (pv 5) rfl))) (pss_nil))))
      (pss_cons (ps_fld (pv 0) (pv 1) rfl)
      (pss_cons (ps_fld (pv 0) (pv 2) rfl)
      (pss_cons (ps_fld (pv 0) (pv 3) rfl)
      (pss_one (ps_fld (pv 0) (pe_callTy call_tuple_of (by rfl) T.n_tuple (by decide +kernel) (pa_cons (pv 4) pa_nil)) rfl)))))))), ?_⟩
    refine ⟨vb, rfl, vb, b, rfl, hb, _, rfl, ?_⟩
    cases h1 : beginD b with
    | false => exact iteT (mkX_fin fun e he => hEp _ (by unfold wayDue; rw [if_pos h1]) _ Ext.rfl' e he)
    | true =>
      refine iteF ?_
      refine ⟨vl, rfl, vm, rfl, vl, vm, l, m, rfl, hl, hm, _, rfl, ?_⟩
      cases h2 : delaysD l m with
      | false => exact iteT (mkX_fin fun e he => hEp _ (by unfold wayDue; rw [h1, if_neg (by decide), if_pos h2]) _ Ext.rfl' e he)
      | true =>
        refine iteF ?_
        obtain ⟨li, mi, rfl, rfl, l1, lm, m50⟩ := delays_yes h2
        obtain rfl := dp_int hl
        obtain rfl := dp_int hm
        obtain ⟨tx, ix, k1, k2, k3, k4⟩ := listOf_key hx
        refine ⟨vx, rfl, vx, tx, isSeqD x, 0, 3, ix, rfl, k1, k2, k3, fun H1 e1 => ⟨_, rfl, ?_⟩⟩
        rw [k4]
        cases h3 : (isSeqD x && (decide ((0 : Int) ≤ (lenD x : Int)) && decide ((lenD x : Int) ≤ 3))) with
        | false => exact iteT (mkX_fin fun e he => hEp _ (by unfold wayDue; rw [h1, if_neg (by decide), h2, if_neg (by decide), if_pos h3]) _ e1 e he)
        | true =>
          refine iteF ?_
          have h3' := (Bool.and_eq_true_iff.mp h3).1
          obtain ⟨a, xs, ds, rfl, hsq, ha, hd⟩ := dp_seq (dp_ext e1 _ _ hx) h3'
          have hit : itemsD x = some ds := by rcases hd with rfl | rfl <;> rfl
          have due : wayDue b (.int li) (.int mi) x = (ds.findIdx? fun d => !boxD d li mi).map .inr := by
            unfold wayDue
            rw [h1, if_neg (by decide), h2, if_neg (by decide), h3, if_neg (by decide), hit]
          rw [due] at hEp hEb hQ
          have small : xs.length ≤ 3 := by
            have z := (Bool.and_eq_true_iff.mp (Bool.and_eq_true_iff.mp h3).2).2
            rw [dp_lenD ha hd, decide_eq_true_eq] at z
            omega
          refine ⟨_, rfl, a, rfl, ?_⟩
          refine for_enSq (xs := xs) hsq (fun i σ' H' => Ext H1 H' ∧ (∃ o5 o6, σ' = [some (.ref p), some vb, some (.int li), some (.int mi), some (.ref a), o5, o6]) ∧ ∀ j d, j < i → ds[j]? = some d → boxD d li mi = true)
            ⟨Ext.rfl', ⟨_, _, rfl⟩, fun j d hj _ => absurd hj (Nat.not_lt_zero _)⟩ (fun i σ' H' pv => pv.1) (fun i v σ' H' T' hi pv hT => ?_) (fun σ' H' pv => ?_)
          · obtain ⟨e2, ⟨o5, o6, rfl⟩, hok⟩ := pv
            refine ⟨T', _, rfl, SqT.of upd_same, rfl, ?_⟩
            have e3 := e2.upd' (o := .tup [.int (i : Nat), v]) hT
            obtain ⟨d, hdi, hdv⟩ := dps_get (dps_ext e3 _ _ ha) hi
            refine ⟨_, _, rfl, _, _, rfl, rfl, ?_⟩
            refine ⟨v, rfl, _, rfl, _, rfl, v, d, li, mi, rfl, hdv, _, rfl, ?_⟩
            cases h4 : boxD d li mi with
            | false =>
              refine iteT ⟨_, rfl, mkX_fin fun e he => hEb i ?_ _ (e1.trans e3) e he⟩
              rw [find_at (f := fun d => !boxD d li mi) (fun j d hj hd => by rw [hok j d hj hd]; rfl) hdi (by rw [h4]; rfl)]
              rfl
            | true =>
              refine iteF ⟨e3, ⟨_, _, rfl⟩, fun j d' hj hd' => ?_⟩
              rcases Nat.lt_succ_iff_lt_or_eq.mp hj with hj | rfl
              · exact hok j d' hj hd'
              · rw [hdi] at hd'
                cases hd'
                exact h4
          · obtain ⟨e2, ⟨o5, o6, rfl⟩, hok⟩ := pv
            have hnone : ((ds.findIdx? fun d => !boxD d li mi).map Sum.inr : Option (Str ⊕ Nat)) = none := by
              rw [find_no (f := fun d => !boxD d li mi) fun j d hd => ?_]
              · rfl
              · have hj : j < xs.length := by
                  rw [dps_len ha]
                  exact (List.getElem?_eq_some_iff.mp hd).1
                rw [hok j d hj hd]
                rfl
            have e12 := e1.trans e2
            have hp2 := e12 _ _ hp
            refine ⟨_, rfl, _, rfl, p, A.Way, dx, _, rfl, hp2, T.Way.cl, T.w_begin, (by show 0 < 1000; decide), ?_⟩
            refine ⟨_, rfl, _, rfl, p, A.Way, dx, _, rfl, upd_same, T.Way.cl, T.w_least, (by show 1 < 1000; decide), ?_⟩
            refine ⟨_, rfl, _, rfl, p, A.Way, dx, _, rfl, upd_same, T.Way.cl, T.w_most, (by show 2 < 1000; decide), ?_⟩
            have hm3 : ∀ o y, y ≠ p → H' y = some o → (upd (upd (upd H' p (.ins A.Way dx (putF "begin" vb []))) p (.ins A.Way dx (putF "least" (.int li) (putF "begin" vb [])))) p (.ins A.Way dx (putF "most" (.int mi) (putF "least" (.int li) (putF "begin" vb []))))) y = some o := fun o y hy h => by
              rw [upd_ne hy, upd_ne hy, upd_ne hy]
              exact h
            have hp3 : (upd (upd (upd H' p (.ins A.Way dx (putF "begin" vb []))) p (.ins A.Way dx (putF "least" (.int li) (putF "begin" vb [])))) p (.ins A.Way dx (putF "most" (.int mi) (putF "least" (.int li) (putF "begin" vb []))))) p = some (.ins A.Way dx (putF "most" (.int mi) (putF "least" (.int li) (putF "begin" vb [])))) := upd_same
            have hda : DpAll K H' xs ds := dps_ext e2 _ _ ha
            generalize upd (upd (upd H' p (.ins A.Way dx (putF "begin" vb []))) p (.ins A.Way dx (putF "least" (.int li) (putF "begin" vb [])))) p (.ins A.Way dx (putF "most" (.int mi) (putF "least" (.int li) (putF "begin" vb [])))) = H3 at hm3 hp3 ⊢
            refine ⟨_, rfl, a, xs, rfl, ?_⟩
            rcases hsq with hsq | hsq
            · refine .inl ⟨sqL_mut hp2 (fun y o => hm3 o y) (hsq.ext e2), fun t ht => ⟨_, rfl, p, A.Way, dx, _, rfl, Ext.upd ht _ _ hp3, T.Way.cl, T.w_boxes, (by show 3 < 1000; decide), ?_⟩⟩
              have ntp : t ≠ p := fun z => by rw [z, hp3] at ht; cases ht
              refine hQ hnone ds _ hit ⟨t, xs, upd_same, SqT.of (by rw [upd_ne ntp]; exact upd_same), ?_⟩ fun y o hy h => ?_
              · exact dps_mut hp2 (fun y o hy h => by rw [upd_ne hy]; exact Ext.upd ht _ _ (hm3 o y hy h)) _ _ hda
              · rw [upd_ne hy]
                exact Ext.upd ht _ _ (hm3 o y hy (e12 _ _ h))
            · refine .inr ⟨sqT_mut hp2 (fun y o => hm3 o y) (hsq.ext e2), _, rfl, p, A.Way, dx, _, rfl, hp3, T.Way.cl, T.w_boxes, (by show 3 < 1000; decide), ?_⟩
              refine hQ hnone ds _ hit ⟨a, xs, upd_same, sqT_mut hp2 (fun y o hy h => by rw [upd_ne hy]; exact hm3 o y hy h) (hsq.ext e2), ?_⟩ fun y o hy h => ?_
              · exact dps_mut hp2 (fun y o hy h => by rw [upd_ne hy]; exact hm3 o y hy h) _ _ hda
              · rw [upd_ne hy]
                exact hm3 o y hy (e12 _ _ h)
end
end K16

set_option Elab.async false
set_option maxRecDepth 100000
set_option maxHeartbeats 4000000
namespace K16
open PySem PySem.Spec PyProof.Rows L2
abbrev Bx := Int × Int × Int × Int
def bxD (q : Bx) : PyData := .tuple [.int q.1, .int q.2.1, .int q.2.2.1, .int q.2.2.2]
def bxOk (q : Bx) (l m : Int) : Prop := 0 ≤ q.1 ∧ q.1 ≤ q.2.1 ∧ q.2.1 ≤ m ∧ q.1 ≤ l ∧ 1 ≤ q.2.2.1 ∧ q.2.2.1 ≤ q.2.2.2 ∧ q.2.2.2 ≤ 10000
theorem box_yes {d : PyData} {l m : Int} (h : boxD d l m = true) : ∃ q, d = bxD q ∧ bxOk q l m := by
  unfold boxD at h
  split at h
  · rename_i n f s g
    rw [decide_eq_true_eq] at h
    exact ⟨(n, f, s, g), rfl, h⟩
  · cases h
theorem box_ok {q : Bx} {l m : Int} (h : bxOk q l m) : boxD (bxD q) l m = true := decide_eq_true h
theorem boxes_yes {l m : Int} : ∀ {ds : List PyData}, (∀ d ∈ ds, boxD d l m = true) → ∃ bs : List Bx, ds = bs.map bxD ∧ ∀ q ∈ bs, bxOk q l m
  | [], _ => ⟨[], rfl, fun _ h => nomatch h⟩
  | d :: ds, h => by
    obtain ⟨q, rfl, hq⟩ := box_yes (h d List.mem_cons_self)
    obtain ⟨bs, rfl, hb⟩ := boxes_yes (ds := ds) fun d hd => h d (List.mem_cons_of_mem _ hd)
    refine ⟨q :: bs, rfl, fun r hr => ?_⟩
    rcases List.mem_cons.mp hr with rfl | hr
    · exact hq
    · exact hb r hr
def bD : Option Int → PyData | some n => .int n | none => .none
def bV : Option Int → V | some n => .int n | none => .non
def bOk (b : Option Int) : Prop := ∀ n, b = some n → 0 ≤ n ∧ n ≤ 1000
theorem begin_yes {d : PyData} (h : beginD d = true) : ∃ b, d = bD b ∧ bOk b := by
  cases d with
  | none => exact ⟨none, rfl, fun n h => nomatch h⟩
  | int n =>
    have h' : betD (.int n) 0 1000 = true := h
    obtain ⟨m, e, h1, h2⟩ := bet_yes h'
    cases e
    exact ⟨some n, rfl, fun k e => by cases e; exact ⟨h1, h2⟩⟩
  | _ => cases h
theorem begin_ok {b : Option Int} (h : bOk b) : beginD (bD b) = true := by
  cases b with
  | none => rfl
  | some n =>
    obtain ⟨h1, h2⟩ := h n rfl
    show betD (.int n) 0 1000 = true
    rw [bet_int, decide_eq_true h1, decide_eq_true h2]
    rfl
theorem due_begin {b l m x : PyData} (h : beginD b = false) : wayDue b l m x = some (.inl "begin") := by
  unfold wayDue
  rw [if_pos h]
theorem due_none {b l m x : PyData} (h : wayDue b l m x = none) : ∃ (bo : Option Int) (li mi : Int) (bs : List Bx), b = bD bo ∧ bOk bo ∧ l = .int li ∧ m = .int mi ∧ (1 ≤ li ∧ li ≤ mi ∧ mi ≤ 50) ∧ itemsD x = some (bs.map bxD) ∧ bs.length ≤ 3 ∧ ∀ q ∈ bs, bxOk q li mi := by
  unfold wayDue at h
  cases h1 : beginD b with
  | false => rw [h1, if_pos rfl] at h; cases h
  | true =>
    rw [h1, if_neg (by decide)] at h
    cases h2 : delaysD l m with
    | false => rw [h2, if_pos rfl] at h; cases h
    | true =>
      rw [h2, if_neg (by decide)] at h
      obtain ⟨li, mi, rfl, rfl, d1, d2, d3⟩ := delays_yes h2
      cases h3 : (isSeqD x && (decide ((0 : Int) ≤ (lenD x : Int)) && decide ((lenD x : Int) ≤ 3))) with
      | false => rw [h3, if_pos rfl] at h; cases h
      | true =>
        rw [h3, if_neg (by decide)] at h
        obtain ⟨bo, rfl, hb⟩ := begin_yes h1
        have h4 := (Bool.and_eq_true_iff.mp (Bool.and_eq_true_iff.mp h3).2).2
        rw [decide_eq_true_eq] at h4
        have fin : ∀ ds : List PyData, itemsD x = some ds → lenD x = ds.length → (ds.findIdx? fun d => !boxD d li mi) = none → ∃ (bo' : Option Int) (li' mi' : Int) (bs : List Bx), bD bo = bD bo' ∧ bOk bo' ∧ PyData.int li = .int li' ∧ PyData.int mi = .int mi' ∧ (1 ≤ li' ∧ li' ≤ mi' ∧ mi' ≤ 50) ∧ itemsD x = some (bs.map bxD) ∧ bs.length ≤ 3 ∧ ∀ q ∈ bs, bxOk q li' mi' := by
          intro ds hi hl hf
          rw [List.findIdx?_eq_none_iff] at hf
          obtain ⟨bs, rfl, hbs⟩ := boxes_yes (ds := ds) (l := li) (m := mi) fun d hd => by
            have z := hf d hd
            cases hz : boxD d li mi with
            | true => rfl
            | false => rw [hz] at z; cases z
          refine ⟨bo, li, mi, bs, rfl, hb, rfl, rfl, ⟨d1, d2, d3⟩, hi, ?_, hbs⟩
          rw [hl, List.length_map] at h4
          omega
        cases x with
        | list ds =>
          refine fin ds rfl rfl ?_
          have h' : (ds.findIdx? fun d => !boxD d li mi).map (Sum.inr (α := Str)) = none := h
          rwa [Option.map_eq_none_iff] at h'
        | tuple ds =>
          refine fin ds rfl rfl ?_
          have h' : (ds.findIdx? fun d => !boxD d li mi).map (Sum.inr (α := Str)) = none := h
          rwa [Option.map_eq_none_iff] at h'
        | _ => cases h3
theorem due_ok {bo : Option Int} {li mi : Int} {bs : List Bx} {x : PyData} (hb : bOk bo) (hd : 1 ≤ li ∧ li ≤ mi ∧ mi ≤ 50) (hx : x = .list (bs.map bxD) ∨ x = .tuple (bs.map bxD)) (hl : bs.length ≤ 3) (hbs : ∀ q ∈ bs, bxOk q li mi) : wayDue (bD bo) (.int li) (.int mi) x = none := by
  have h2 : delaysD (.int li) (.int mi) = true := by
    simp only [delaysD]
    rw [decide_eq_true hd.1, decide_eq_true hd.2.1, decide_eq_true hd.2.2]
    rfl
  have hf : ((bs.map bxD).findIdx? fun d => !boxD d li mi) = none := by
    rw [List.findIdx?_eq_none_iff]
    intro d hd
    obtain ⟨q, hq, rfl⟩ := List.mem_map.mp hd
    rw [box_ok (hbs q hq)]
    rfl
  have h4 : decide (((bs.map bxD).length : Int) ≤ 3) = true := by
    rw [List.length_map]
    exact decide_eq_true (by omega)
  have h5 : decide ((0 : Int) ≤ ((bs.map bxD).length : Int)) = true := decide_eq_true (by omega)
  unfold wayDue
  rw [begin_ok hb, if_neg (by decide), h2, if_neg (by decide)]
  rcases hx with rfl | rfl
  · have h3 : (isSeqD (.list (bs.map bxD)) && (decide ((0 : Int) ≤ (lenD (.list (bs.map bxD)) : Int)) && decide ((lenD (.list (bs.map bxD)) : Int) ≤ 3))) = true := by
      show (true && (decide ((0 : Int) ≤ ((bs.map bxD).length : Int)) && decide (((bs.map bxD).length : Int) ≤ 3))) = true
      rw [h4, h5]
      rfl
    rw [h3, if_neg (by decide)]
    show ((bs.map bxD).findIdx? fun d => !boxD d li mi).map (Sum.inr (α := Str)) = none
    rw [hf]
    rfl
  · have h3 : (isSeqD (.tuple (bs.map bxD)) && (decide ((0 : Int) ≤ (lenD (.tuple (bs.map bxD)) : Int)) && decide ((lenD (.tuple (bs.map bxD)) : Int) ≤ 3))) = true := by
      show (true && (decide ((0 : Int) ≤ ((bs.map bxD).length : Int)) && decide (((bs.map bxD).length : Int) ≤ 3))) = true
      rw [h4, h5]
      rfl
    rw [h3, if_neg (by decide)]
    show ((bs.map bxD).findIdx? fun d => !boxD d li mi).map (Sum.inr (α := Str)) = none
    rw [hf]
    rfl
theorem eqv_bx (q r : Bx) : PyData.eqv (bxD q) (bxD r) = decide (q = r) := by
  obtain ⟨a, b, c, d⟩ := q
  obtain ⟨a', b', c', d'⟩ := r
  have h := eqv_ints [a, b, c, d] [a', b', c', d']
  show PyData.eqvAll [.int a, .int b, .int c, .int d] [.int a', .int b', .int c', .int d'] = _
  rw [show PyData.eqvAll [.int a, .int b, .int c, .int d] [.int a', .int b', .int c', .int d'] = decide ([a, b, c, d] = [a', b', c', d']) from h]
  simp
theorem eqv_bxs : ∀ (bs cs : List Bx), PyData.eqvAll (bs.map bxD) (cs.map bxD) = decide (bs = cs)
  | [], [] => rfl
  | [], _ :: _ => rfl
  | _ :: _, [] => rfl
  | b :: bs, c :: cs => by
    show (PyData.eqv (bxD b) (bxD c) && PyData.eqvAll (bs.map bxD) (cs.map bxD)) = _
    rw [eqv_bx, eqv_bxs bs cs, Bool.eq_iff_iff]
    simp
theorem lay_bxs : ∀ bs : List Bx, PyData.canLayAll0 (bs.map bxD) = true ∧ PyData.depthAll (bs.map bxD) ≤ 1
  | [] => ⟨rfl, Nat.zero_le _⟩
  | b :: bs => by
    obtain ⟨h1, h2⟩ := lay_bxs bs
    constructor
    · show ((bxD b).canLay0 && PyData.canLayAll0 (bs.map bxD)) = true
      rw [h1]
      rfl
    · show max (bxD b).depth (PyData.depthAll (bs.map bxD)) ≤ 1
      exact Nat.max_le.mpr ⟨Nat.le_refl 1, h2⟩
theorem shp_bxs (bs : List Bx) : SeqAt.shaped (.tuple (bs.map bxD)) = true := by
  obtain ⟨h1, h2⟩ := lay_bxs bs
  show (PyData.canLayAll0 (bs.map bxD) && decide (PyData.depthAll (bs.map bxD) + 1 ≤ 64)) = true
  rw [h1, decide_eq_true (by omega)]
  rfl
section
variable {P : Program} {w : World} {K : PySem.W.Frag} {mg : Str → Option Value} {base : Heap} {A : Ad}
theorem bV_dp {H : Hp} (b : Option Int) : Dp K H (bV b) (bD b) := by cases b <;> first | exact .non | exact .int _
theorem bV_of {H : Hp} {v : V} {b : Option Int} (h : Dp K H v (bD b)) : v = bV b := by
  cases b with
  | none => cases h; rfl
  | some n => cases h; rfl
theorem bV_eq (b c : Option Int) : decide (bV b = bV c) = decide (b = c) := by cases b <;> cases c <;> simp [bV]
theorem bV_sc (b c : Option Int) : scal (bV b) (bV c) = true := by cases b <;> cases c <;> rfl
def MyWay (K : PySem.W.Frag) (A : Ad) (H : Hp) (p : Addr) (b : Option Int) (l m : Int) (bs : List Bx) : Prop := WayAt K A H p (bV b) (.int l) (.int m) (bs.map bxD)
theorem MyWay.ext {H H' : Hp} {p : Addr} {b : Option Int} {l m : Int} {bs : List Bx} (h : MyWay K A H p b l m bs) (e : Ext H H') : MyWay K A H' p b l m bs := by
  obtain ⟨dx, T', xs, h1, h2, h3⟩ := h
  exact ⟨dx, T', xs, e _ _ h1, h2.ext e, dps_ext e _ _ h3⟩
def spWindow (K : PySem.W.Frag) (A : Ad) : Sp := fun vs H Q _ => ∃ p b l m bs, vs = [.ref p] ∧ MyWay K A H p b l m bs ∧ (b = none → Q .non H) ∧ ∀ n, b = some n → ∀ t H', Ext H H' → H' t = some (.tup [.int (n + 2 * l), .int (n + 2 * m)]) → Q (.ref t) H'
theorem ok_window {f : Addr} {fd : FuncData} (F : Fun K "window" "Way.window" s_Way_window f fd) (T : Txt K mg A) : FnOk P w K mg base CX0 1 f fd pm_Way_window (spWindow K A) := by
  refine F.ok sc_Way_window (fun vs H Q E h => ?_) (fun cdv A' outer s H vs Q E hr h => ?_)
  · obtain ⟨_, _, _, _, _, rfl, _⟩ := h
    rfl
  · obtain ⟨p, b, l, m, bs, rfl, ⟨dx, T', xs, hp, hT, ha⟩, q0, q1⟩ := h
    refine ⟨_, pss_cons (ps_if (pt_cmpR op_isN (pe_fld (pv 0) rfl) (pe_non) (nomark _)) (pss_one (ps_ret (pe_non))) (pss_nil))
      (pss_one (ps_ret (pe_tup (pa_cons (pe_op op_add (pe_fld (pv 0) rfl) (pe_op op_mul (pe_int) (pe_fld (pv 0) rfl))) (pa_cons (pe_op op_add (pe_fld (pv 0) rfl) (pe_op op_mul (pe_int) (pe_fld (pv 0) rfl))) pa_nil))))), ?_⟩
    refine ⟨_, rfl, p, A.Way, dx, _, _, rfl, hp, T.Way.cl, T.w_begin, rfl, rfl, _, rfl, ?_⟩
    cases b with
    | none => exact iteT (q0 rfl)
    | some n =>
      refine iteF ?_
      refine ⟨_, rfl, p, A.Way, dx, _, _, rfl, hp, T.Way.cl, T.w_begin, rfl, _, rfl, p, A.Way, dx, _, _, rfl, hp, T.Way.cl, T.w_least, rfl, _, _, rfl, rfl, .inl ⟨by decide, by decide⟩, _, _, rfl, rfl, ?_⟩
      refine ⟨_, rfl, p, A.Way, dx, _, _, rfl, hp, T.Way.cl, T.w_begin, rfl, _, rfl, p, A.Way, dx, _, _, rfl, hp, T.Way.cl, T.w_most, rfl, _, _, rfl, rfl, .inl ⟨by decide, by decide⟩, _, _, rfl, rfl, ?_⟩
      exact ⟨by show 2 ≤ sizeLine; decide, fun t ht => q1 n rfl t _ (Ext.upd ht) upd_same⟩
def spWayEq (K : PySem.W.Frag) (A : Ad) : Sp := fun vs H Q _ => ∃ p b l m bs v, vs = [.ref p, v] ∧ MyWay K A H p b l m bs ∧
  ((∃ q b' l' m' bs', v = .ref q ∧ MyWay K A H q b' l' m' bs' ∧ Q (.bl (decide (b = b' ∧ l = l' ∧ m = m' ∧ bs = bs'))) H) ∨ ∃ d, Dp K H v d ∧ Q (.bl false) H)
theorem ok_wayEq {f : Addr} {fd : FuncData} (F : Fun K "__eq__" "Way.__eq__" s_Way_eq f fd) (T : Txt K mg A) : FnOk P w K mg base CX0 1 f fd pm_Way_eq (spWayEq K A) := by
  refine F.ok sc_Way_eq (fun vs H Q E h => ?_) (fun cdv A' outer s H vs Q E hr h => ?_)
  · obtain ⟨_, _, _, _, _, _, rfl, _⟩ := h
    rfl
  · obtain ⟨p, b, l, m, bs, v, rfl, ⟨dx, T', xs, hp, hT, ha⟩, h⟩ := h
    refine ⟨_, pss_cons (ps_if (PW.pt (pw_or (pt_not (pt_val (pe_callB call_isi (by rfl) T.n_isinstance (by decide +kernel) (pa_cons (pv 1) (pa_cons (pe_gcls T.Way.gC) pa_nil))))) (pw_or1 (pt_cmpR op_ne (pe_fld (pv 0) rfl) (pe_fld (pv 1) rfl) (nomark _))))) (pss_one (ps_ret (pe_bl))) (pss_nil))
      (pss_one (ps_ret (pe_and (pe_cmpR op_eq (pe_fld (pv 0) rfl) (pe_fld (pv 1) rfl) (nomark _)) (pe_and (pe_cmpR op_eq (pe_fld (pv 0) rfl) (pe_fld (pv 1) rfl) (nomark _)) (pe_one (pe_cmpR (op_eqD hr.units) (pe_fld (pv 0) rfl) (pe_fld (pv 1) rfl) (nomark _))))))), ?_⟩
    rcases h with ⟨q, b', l', m', bs', rfl, ⟨dy, T2, ys, hq, hT2, ha2⟩, k⟩ | ⟨d, hd, h⟩
    · refine ⟨_, rfl, _, .ref A.Way, .ref A.Way, .ref A.Way, true, rfl, .own _, T.Way.tyOf hq, T.Way.me, _, rfl, ?_⟩
      refine iteF ?_
      refine ⟨_, rfl, p, A.Way, dx, _, _, rfl, hp, T.Way.cl, T.w_begin, rfl, _, rfl, q, A.Way, dy, _, _, rfl, hq, T.Way.cl, T.w_begin, rfl, bV_sc _ _, _, rfl, ?_⟩
      rw [bV_eq]
      by_cases h1 : b = b'
      · rw [decide_eq_true h1]
        refine iteF ?_
        refine ⟨_, rfl, p, A.Way, dx, _, _, rfl, hp, T.Way.cl, T.w_least, rfl, _, rfl, q, A.Way, dy, _, _, rfl, hq, T.Way.cl, T.w_least, rfl, rfl, _, rfl, ?_⟩
        rw [dvi]
        by_cases h2 : l = l'
        · rw [decide_eq_true h2]
          refine iteT ?_
          refine ⟨_, rfl, p, A.Way, dx, _, _, rfl, hp, T.Way.cl, T.w_most, rfl, _, rfl, q, A.Way, dy, _, _, rfl, hq, T.Way.cl, T.w_most, rfl, rfl, _, rfl, ?_⟩
          rw [dvi]
          by_cases h3 : m = m'
          · rw [decide_eq_true h3]
            refine iteT ?_
            refine ⟨_, rfl, p, A.Way, dx, _, _, rfl, hp, T.Way.cl, T.w_boxes, rfl, _, rfl, q, A.Way, dy, _, _, rfl, hq, T.Way.cl, T.w_boxes, rfl, ?_⟩
            refine ⟨_, _, .tup hT ha, .tup hT2 ha2, shp_bxs _, shp_bxs _, ?_⟩
            show Q (.bl (PyData.eqvAll (bs.map bxD) (bs'.map bxD))) H
            rw [eqv_bxs]
            have e : decide (b = b' ∧ l = l' ∧ m = m' ∧ bs = bs') = decide (bs = bs') := by simp [h1, h2, h3]
            rw [e] at k
            exact k
          · rw [decide_eq_false h3]
            rw [decide_eq_false (by simp [h3])] at k
            exact iteF k
        · rw [decide_eq_false h2]
          rw [decide_eq_false (by simp [h2])] at k
          exact iteF k
      · rw [decide_eq_false h1]
        rw [decide_eq_false (by simp [h1])] at k
        exact iteT k
    · refine ⟨_, rfl, _, .ref A.Way, .type (tnD d), .ref A.Way, false, rfl, .own _, dp_ty hd, T.Way.kitB (sub_ty_ref kd_find) rfl, _, rfl, ?_⟩
      exact iteT h
end
end K16

set_option Elab.async false
set_option maxRecDepth 100000
set_option maxHeartbeats 4000000
namespace K16
open PySem PySem.Spec PyProof.Rows L2
section
variable {P : Program} {w : World} {K : PySem.W.Frag} {mg : Str → Option Value} {base : Heap} {A : Ad}
/-- a body that is never come to -/
theorem pss_dead {X : Cx} {ss : List Stmt} : PSs X ss (fun _ _ _ => False) := ⟨fun _ _ _ _ _ _ h => h.elim⟩
theorem all_map {xs : List V} {f : V → Bool} : xs.map (fun x => V.bl (f x)) = (xs.map f).map V.bl := by
  rw [List.map_map]
  rfl
theorem all_id {xs : List V} {f : V → Bool} : (xs.map f).all id = xs.all f := by
  rw [List.all_map]
  rfl
def spCheckWays (K : PySem.W.Frag) (A : Ad) : Sp := fun vs H Q E => ∃ (v : V) (t : Value) (k : Bool) (xs : List V) (g : V → Bool), vs = [v] ∧ (∀ H', Ext H H' → TyX K H' v t) ∧ PySem.W.kitAny K t [.type "list", .type "tuple"] = some k ∧ (k = true → ∃ p, v = .ref p ∧ (SqL K H p xs ∨ SqT K H p xs)) ∧ xs.length ≤ 1000 ∧
  (∀ x ∈ xs, ∃ tx, (∀ H', Ext H H' → TyX K H' x tx) ∧ PySem.W.kitOne K tx (.ref A.Way) = some (g x)) ∧
  ((k && (decide ((1 : Int) ≤ (xs.length : Int)) && decide ((xs.length : Int) ≤ 4)) && xs.all g) = false → ∀ H', Ext H H' → ∀ e, H' e = none → E (.ref A.BadPart) (some e) (upd H' e (.xd [("part", .str "ways")]))) ∧
  ((k && (decide ((1 : Int) ≤ (xs.length : Int)) && decide ((xs.length : Int) ≤ 4)) && xs.all g) = true → ∀ H', Ext H H' → Q .non H')
theorem ok_checkWays {f : Addr} {fd : FuncData} (F : Fun K "check_ways" "check_ways" s_check_ways f fd) (T : Txt K mg A) (O_is_list_of : Own P w K mg base CX0 "is_list_of" 2 pm_is_list_of (spListOf K)) (X_BadPart : XCls P w K mg base "BadPart" "part" A.BadPart) : FnOk P w K mg base (L2.CX P w) 4 f fd pm_check_ways (spCheckWays K A) := by
  refine F.okX sc_check_ways (fun vs H Q E h => ?_) (fun cdv A' outer s H vs Q E hr h => ?_)
  · obtain ⟨_, _, _, _, _, rfl, _⟩ := h
    rfl
  · obtain ⟨v, t, k, xs, g, rfl, hv, hk, hp, hsm, hx, qE, qQ⟩ := h
    have hIsi : ∀ s1 H1 sc ce fp, CallR ((cxOf (L2.CX P w) P w K mg base nm_check_ways "check_ways" (defScope s_check_ways) f cdv A' outer s H E).blk s1 H1 sc ce fp) (.builtin "isinstance") (rIsi K) := fun s1 H1 sc ce fp =>
      call_isi (X := (cxOf (L2.CX P w) P w K mg base nm_check_ways "check_ways" (defScope s_check_ways) f cdv A' outer s H E).blk s1 H1 sc ce fp)
    refine ⟨_, pss_one (ps_if (PW.pt (pw_or (pt_not (pt_val (pe_own O_is_list_of (hr.mono (by decide)) pass0 (pa_cons (pv 0) (pa_cons (pe_int) (pa_cons (pe_gint T.g_MOST_WAYS) pa_nil)))))) (pw_or1 (pt_not (pt_val (pe_callB (cr_all rfl) (by rfl) T.n_all (by decide +kernel) (pa_cons (pe_lc (own := [("way", 1)]) (g := gName 1) (by rfl) sc_check_ways.nd (pi_sq (pv 0)) (blkOk_by (own := [("way", 1)]) (N := nm_check_ways) (sc := defScope s_check_ways) (by decide +kernel)) (fun _ _ _ _ _ => pg_name (i := 1) sc_check_ways.nd rfl (Or.inl rfl)) (fun _ _ _ _ _ => pts_nil) (fun _ _ _ _ _ => pe_callB (hIsi _ _ _ _ _) (by rfl) T.n_isinstance (by decide +kernel) (pa_cons (pv 1) (pa_cons (pe_gcls T.Way.gC) pa_nil)))) pa_nil))))))) (pss_one (ps_raise rfl (takes_of rfl rfl rfl rfl) (pmk_X X_BadPart (hr.mono (by decide)) (pe_str) rfl))) (pss_nil)), ?_⟩
    refine ⟨v, rfl, v, t, k, 1, 4, xs, rfl, hv, hk, hp, fun H1 e1 => ⟨_, rfl, ?_⟩⟩
    cases h1 : (k && (decide ((1 : Int) ≤ (xs.length : Int)) && decide ((xs.length : Int) ≤ 4))) with
    | false =>
      rw [h1] at qE
      exact iteT (mkX_fin fun e he => qE rfl _ e1 e he)
    | true =>
      rw [h1] at qE qQ
      refine iteF ?_
      have hkt : k = true := (Bool.and_eq_true_iff.mp h1).1
      obtain ⟨p, rfl, hseq⟩ := hp hkt
      refine ⟨_, rfl, p, rfl, lc_sqG (f := fun x => .bl (g x)) (b := fun _ => true) (hseq.imp (fun h => h.ext e1) (fun h => h.ext e1)) (small1000 hsm) (fun x => rfl) (fun x hm H' e' Q' q' => q' _ Ext.rfl') (fun x hm _ H' e' Q' q' => ?_) (fun D H2 hD e2 hl => ?_)⟩
      · obtain ⟨tx, t1, t2⟩ := hx x hm
        exact ⟨x, rfl, x, .ref A.Way, tx, .ref A.Way, g x, rfl, .own _, t1 _ (e1.trans e'), t2, q' _ Ext.rfl'⟩
      · rw [L2.filter_all, all_map] at hl
        refine ⟨D, xs.map g, rfl, SqL.of hl, _, rfl, ?_⟩
        rw [all_id]
        cases h2 : xs.all g with
        | false =>
          rw [h2] at qE
          exact iteT (mkX_fin fun e he => qE rfl _ (e1.trans e2) e he)
        | true =>
          rw [h2] at qQ
          exact iteF (qQ rfl _ (e1.trans e2))
def spCheckSilent (K : PySem.W.Frag) (A : Ad) : Sp := fun vs H Q E => ∃ (v : V) (d : PyData), vs = [v] ∧ Dp K H v d ∧ (betD d 0 3 = false → ∀ H', Ext H H' → ∀ e, H' e = none → E (.ref A.BadPart) (some e) (upd H' e (.xd [("part", .str "silent")]))) ∧ (betD d 0 3 = true → Q .non H)
theorem ok_checkSilent {f : Addr} {fd : FuncData} (F : Fun K "check_silent" "check_silent" s_check_silent f fd) (T : Txt K mg A) (O_is_between : Own P w K mg base CX0 "is_between" 2 pm_is_between (spBetween K)) (X_BadPart : XCls P w K mg base "BadPart" "part" A.BadPart) : FnOk P w K mg base (L2.CX P w) 4 f fd pm_check_silent (spCheckSilent K A) := by
  refine F.okX sc_check_silent (fun vs H Q E h => ?_) (fun cdv A' outer s H vs Q E hr h => ?_)
  · obtain ⟨_, _, rfl, _⟩ := h
    rfl
  · obtain ⟨v, d, rfl, hd, qE, qQ⟩ := h
    refine ⟨_, pss_one (ps_if (pt_not (pt_val (pe_own O_is_between (hr.mono (by decide)) pass0 (pa_cons (pv 0) (pa_cons (pe_int) (pa_cons (pe_gint T.g_MOST_SILENT) pa_nil)))))) (pss_one (ps_raise rfl (takes_of rfl rfl rfl rfl) (pmk_X X_BadPart (hr.mono (by decide)) (pe_str) rfl))) (pss_nil)), ?_⟩
    refine ⟨v, rfl, v, d, 0, 3, rfl, hd, _, rfl, ?_⟩
    cases h1 : betD d 0 3 with
    | false => exact iteT (mkX_fin fun e he => qE h1 _ Ext.rfl' e he)
    | true => exact iteF (qQ h1)
/-- a race at p: its ways' tuple and its silent -/
def rF (x z : V) : List (Str × V) := [("ways", x), ("silent", z)]
def spIndex (K : PySem.W.Frag) : Sp := fun vs H Q _ => ∃ v d n, vs = [v, .int n] ∧ Dp K H v d ∧ Q (.bl (betD d 0 (n - 1))) H
theorem ok_index {f : Addr} {fd : FuncData} (F : Fun K "is_index" "is_index" s_is_index f fd) (O_is_between : Own P w K mg base CX0 "is_between" 2 pm_is_between (spBetween K)) : FnOk P w K mg base CX0 3 f fd pm_is_index (spIndex K) := by
  refine F.ok sc_is_index (fun vs H Q E h => ?_) (fun cdv A' outer s H vs Q E hr h => ?_)
  · obtain ⟨_, _, _, rfl, _⟩ := h
    rfl
  · obtain ⟨v, d, n, rfl, hd, q⟩ := h
    refine ⟨_, pss_one (ps_ret (pe_own O_is_between (hr.mono (by decide)) pass0 (pa_cons (pv 0) (pa_cons (pe_int) (pa_cons (pe_op op_sub (pv 1) (pe_int)) pa_nil))))), ?_⟩
    exact ⟨v, rfl, _, rfl, _, _, rfl, rfl, v, d, 0, n - 1, rfl, hd, q⟩
/-- asked for a way that is none -/
def spNoWay (K : PySem.W.Frag) (A : Ad) : Sp := fun vs H Q E => ∃ (p T dx : Addr) (z v : V) (d : PyData) (ws : List V), vs = [.ref p, v] ∧ H p = some (.ins A.Race dx (rF (.ref T) z)) ∧ SqT K H T ws ∧ Dp K H v d ∧ betD d 0 ((ws.length : Int) - 1) = false ∧
  ∀ e, H e = none → E (.ref A.NoWay) (some e) (upd H e (.xd [("way", v)]))
theorem ok_checkWay {f : Addr} {fd : FuncData} (F : Fun K "check_way" "check_way" s_check_way f fd) (T : Txt K mg A) (O_is_index : Own P w K mg base CX0 "is_index" 3 pm_is_index (spIndex K)) (X_NoWay : XCls P w K mg base "NoWay" "way" A.NoWay) : FnOk P w K mg base (L2.CX P w) 5 f fd pm_check_way (spNoWay K A) := by
  refine F.okX sc_check_way (fun vs H Q E h => ?_) (fun cdv A' outer s H vs Q E hr h => ?_)
  · obtain ⟨_, _, _, _, _, _, _, rfl, _⟩ := h
    rfl
  · obtain ⟨p, T', dx, z, v, d, ws, rfl, hp, hT, hd, hb, q⟩ := h
    refine ⟨_, pss_one (ps_if (pt_not (pt_val (pe_own O_is_index (hr.mono (by decide)) pass0 (pa_cons (pv 1) (pa_cons (pe_callB call_len_seq (by rfl) T.n_len (by decide +kernel) (pa_cons (pe_fld (pv 0) rfl) pa_nil)) pa_nil))))) (pss_one (ps_raise rfl (takes_of rfl rfl rfl rfl) (pmk_X X_NoWay (hr.mono (by decide)) (pv 1) rfl))) (pss_nil)), ?_⟩
    refine ⟨_, rfl, _, rfl, p, A.Race, dx, _, _, rfl, hp, T.Race.cl, T.r_ways, rfl, T', ws, rfl, .inr hT, v, d, (ws.length : Int), rfl, hd, _, rfl, ?_⟩
    rw [hb]
    exact iteT ⟨_, rfl, mkX_fin fun e he => q e he⟩
end
end K16

set_option Elab.async false
set_option maxRecDepth 100000
set_option maxHeartbeats 4000000
namespace K16
open PySem PySem.Spec PyProof.Rows L2
section
variable {P : Program} {w : World} {K : PySem.W.Frag} {mg : Str → Option Value} {base : Heap} {A : Ad}
/-- the same with a moment behind -/
def spNoWay3 (K : PySem.W.Frag) (A : Ad) : Sp := fun vs H Q E => ∃ v a r, vs = [r, v, a] ∧ spNoWay K A [r, v] H Q E
theorem ok_hurried {f : Addr} {fd : FuncData} (F : Fun K "hurried" "Race.hurried" s_Race_hurried f fd) (T : Txt K mg A) (O_check_way : Own P w K mg base (L2.CX P w) "check_way" 5 pm_check_way (spNoWay K A)) : FnOk P w K mg base (L2.CX P w) 7 f fd pm_Race_hurried (spNoWay3 K A) := by
  refine F.okX sc_Race_hurried (fun vs H Q E h => ?_) (fun cdv A' outer s H vs Q E hr h => ?_)
  · obtain ⟨_, _, _, rfl, _⟩ := h
    rfl
  · obtain ⟨v, a, r, rfl, h⟩ := h
    obtain ⟨p, T', dx, z, v', d, ws, e, hp, hT, hd, hb, q⟩ := h
    cases e
    refine ⟨_, pss_cons (ps_expr (pe_ownS O_check_way (hr.mono (by decide)) (takes_of rfl rfl rfl rfl) (pa_cons (pv 0) (pa_cons (pv 1) pa_nil)))) pss_dead, ?_⟩
    exact ⟨_, rfl, _, rfl, p, T', dx, z, _, d, ws, rfl, hp, hT, hd, hb, q⟩
theorem ok_canWin {f : Addr} {fd : FuncData} (F : Fun K "can_win" "Race.can_win" s_Race_can_win f fd) (T : Txt K mg A) (O_check_way : Own P w K mg base (L2.CX P w) "check_way" 5 pm_check_way (spNoWay K A)) : FnOk P w K mg base (L2.CX P w) 7 f fd pm_Race_can_win (spNoWay3 K A) := by
  refine F.okX sc_Race_can_win (fun vs H Q E h => ?_) (fun cdv A' outer s H vs Q E hr h => ?_)
  · obtain ⟨_, _, _, rfl, _⟩ := h
    rfl
  · obtain ⟨v, a, r, rfl, h⟩ := h
    obtain ⟨p, T', dx, z, v', d, ws, e, hp, hT, hd, hb, q⟩ := h
    cases e
    refine ⟨_, pss_cons (ps_expr (pe_ownS O_check_way (hr.mono (by decide)) (takes_of rfl rfl rfl rfl) (pa_cons (pv 0) (pa_cons (pv 1) pa_nil)))) pss_dead, ?_⟩
    exact ⟨_, rfl, _, rfl, p, T', dx, z, _, d, ws, rfl, hp, hT, hd, hb, q⟩
theorem ok_lastWin {f : Addr} {fd : FuncData} (F : Fun K "last_win" "Race.last_win" s_Race_last_win f fd) (T : Txt K mg A) (O_check_way : Own P w K mg base (L2.CX P w) "check_way" 5 pm_check_way (spNoWay K A)) : FnOk P w K mg base (L2.CX P w) 7 f fd pm_Race_last_win (spNoWay K A) := by
  refine F.okX sc_Race_last_win (fun vs H Q E h => ?_) (fun cdv A' outer s H vs Q E hr h => ?_)
  · obtain ⟨_, _, _, _, _, _, _, rfl, _⟩ := h
    rfl
  · obtain ⟨p, T', dx, z, v', d, ws, rfl, hp, hT, hd, hb, q⟩ := h
    refine ⟨_, pss_cons (ps_expr (pe_ownS O_check_way (hr.mono (by decide)) (takes_of rfl rfl rfl rfl) (pa_cons (pv 0) (pa_cons (pv 1) pa_nil)))) pss_dead, ?_⟩
    exact ⟨_, rfl, _, rfl, p, T', dx, z, _, d, ws, rfl, hp, hT, hd, hb, q⟩
theorem ok_checkWin {f : Addr} {fd : FuncData} (F : Fun K "check_win" "check_win" s_check_win f fd) (T : Txt K mg A) (O_can_win : OwnM P w K mg base (L2.CX P w) A.Race "can_win" 7 pm_Race_can_win (spNoWay3 K A)) : FnOk P w K mg base (L2.CX P w) 8 f fd pm_check_win (spNoWay3 K A) := by
  refine F.okX sc_check_win (fun vs H Q E h => ?_) (fun cdv A' outer s H vs Q E hr h => ?_)
  · obtain ⟨_, _, _, rfl, _⟩ := h
    rfl
  · obtain ⟨v, a, r, rfl, h⟩ := h
    obtain ⟨p, T', dx, z, v', d, ws, e, hp, hT, hd, hb, q⟩ := h
    cases e
    refine ⟨_, pss_one (ps_if (pt_not (pt_val (pe_ownMS O_can_win (pv 0) T.Race.cl (hr.mono (by decide)) (takes_of rfl rfl rfl rfl) (pa_cons (pv 1) (pa_cons (pv 2) pa_nil))))) pss_dead (pss_nil)), ?_⟩
    exact ⟨_, rfl, p, dx, _, rfl, hp, rfl, _, rfl, _, rfl, _, a, _, rfl, p, T', dx, z, _, d, ws, rfl, hp, hT, hd, hb, q⟩
theorem ok_winRun {f : Addr} {fd : FuncData} (F : Fun K "win_run" "win_run" s_win_run f fd) (T : Txt K mg A) (O_check_win : Own P w K mg base (L2.CX P w) "check_win" 8 pm_check_win (spNoWay3 K A)) : FnOk P w K mg base (L2.CX P w) 9 f fd pm_win_run (spNoWay3 K A) := by
  refine F.okX sc_win_run (fun vs H Q E h => ?_) (fun cdv A' outer s H vs Q E hr h => ?_)
  · obtain ⟨_, _, _, rfl, _⟩ := h
    rfl
  · obtain ⟨v, a, r, rfl, h⟩ := h
    refine ⟨_, pss_cons (ps_expr (pe_ownS O_check_win (hr.mono (by decide)) (takes_of rfl rfl rfl rfl) (pa_cons (pv 0) (pa_cons (pv 1) (pa_cons (pv 2) pa_nil))))) pss_dead, ?_⟩
    obtain ⟨p, T', dx, z, v', d, ws, e, hp, hT, hd, hb, q⟩ := h
    cases e
    exact ⟨_, rfl, _, rfl, _, rfl, _, a, _, rfl, p, T', dx, z, _, d, ws, rfl, hp, hT, hd, hb, q⟩
theorem ok_silentAfter {f : Addr} {fd : FuncData} (F : Fun K "silent_after" "silent_after" s_silent_after f fd) (T : Txt K mg A) (O_check_win : Own P w K mg base (L2.CX P w) "check_win" 8 pm_check_win (spNoWay3 K A)) : FnOk P w K mg base (L2.CX P w) 9 f fd pm_silent_after (spNoWay3 K A) := by
  refine F.okX sc_silent_after (fun vs H Q E h => ?_) (fun cdv A' outer s H vs Q E hr h => ?_)
  · obtain ⟨_, _, _, rfl, _⟩ := h
    rfl
  · obtain ⟨v, a, r, rfl, h⟩ := h
    refine ⟨_, pss_cons (ps_expr (pe_ownS O_check_win (hr.mono (by decide)) (takes_of rfl rfl rfl rfl) (pa_cons (pv 0) (pa_cons (pv 1) (pa_cons (pv 2) pa_nil))))) pss_dead, ?_⟩
    obtain ⟨p, T', dx, z, v', d, ws, e, hp, hT, hd, hb, q⟩ := h
    cases e
    exact ⟨_, rfl, _, rfl, _, rfl, _, a, _, rfl, p, T', dx, z, _, d, ws, rfl, hp, hT, hd, hb, q⟩
theorem ok_winPaper {f : Addr} {fd : FuncData} (F : Fun K "win_paper" "win_paper" s_win_paper f fd) (T : Txt K mg A) (O_can_win : OwnM P w K mg base (L2.CX P w) A.Race "can_win" 7 pm_Race_can_win (spNoWay3 K A)) : FnOk P w K mg base (L2.CX P w) 8 f fd pm_win_paper (spNoWay3 K A) := by
  refine F.okX sc_win_paper (fun vs H Q E h => ?_) (fun cdv A' outer s H vs Q E hr h => ?_)
  · obtain ⟨_, _, _, rfl, _⟩ := h
    rfl
  · obtain ⟨v, a, r, rfl, h⟩ := h
    obtain ⟨p, T', dx, z, v', d, ws, e, hp, hT, hd, hb, q⟩ := h
    cases e
    refine ⟨_, pss_cons (ps_if (pt_val (pe_ownMS O_can_win (pv 0) T.Race.cl (hr.mono (by decide)) (takes_of rfl rfl rfl rfl) (pa_cons (pv 1) (pa_cons (pv 2) pa_nil)))) pss_dead (pss_nil)) pss_dead, ?_⟩
    exact ⟨_, rfl, p, dx, _, rfl, hp, rfl, _, rfl, _, rfl, _, a, _, rfl, p, T', dx, z, _, d, ws, rfl, hp, hT, hd, hb, q⟩
/-! ### the constructor -/
def spRaceInit (K : PySem.W.Frag) (A : Ad) : Sp := fun vs H Q E => ∃ (p dx : Addr) (v z : V) (dz : PyData) (t : Value) (k : Bool) (xs : List V) (g : V → Bool), vs = [.ref p, v, z] ∧ H p = some (.ins A.Race dx []) ∧ Dp K H z dz ∧ (∀ H', Ext H H' → TyX K H' v t) ∧
  PySem.W.kitAny K t [.type "list", .type "tuple"] = some k ∧ (k = true → ∃ p, v = .ref p ∧ (SqL K H p xs ∨ SqT K H p xs)) ∧ xs.length ≤ 1000 ∧ (∀ x ∈ xs, ∃ tx, (∀ H', Ext H H' → TyX K H' x tx) ∧ PySem.W.kitOne K tx (.ref A.Way) = some (g x)) ∧
  ((k && (decide ((1 : Int) ≤ (xs.length : Int)) && decide ((xs.length : Int) ≤ 4)) && xs.all g) = false → ∀ H', Ext H H' → ∀ e, H' e = none → E (.ref A.BadPart) (some e) (upd H' e (.xd [("part", .str "ways")]))) ∧
  ((k && (decide ((1 : Int) ≤ (xs.length : Int)) && decide ((xs.length : Int) ≤ 4)) && xs.all g) = true → betD dz 0 3 = false → ∀ H', Ext H H' → ∀ e, H' e = none → E (.ref A.BadPart) (some e) (upd H' e (.xd [("part", .str "silent")]))) ∧
  ((k && (decide ((1 : Int) ≤ (xs.length : Int)) && decide ((xs.length : Int) ≤ 4)) && xs.all g) = true → betD dz 0 3 = true → ∀ H', (∃ T, H' p = some (.ins A.Race dx (rF (.ref T) z)) ∧ SqT K H' T xs) → (∀ x o, x ≠ p → H x = some o → H' x = some o) → Q .non H')
theorem ok_raceInit {f : Addr} {fd : FuncData} (F : Fun K "__init__" "Race.__init__" s_Race_init f fd) (T : Txt K mg A) (O_check_ways : Own P w K mg base (L2.CX P w) "check_ways" 4 pm_check_ways (spCheckWays K A)) (O_check_silent : Own P w K mg base (L2.CX P w) "check_silent" 4 pm_check_silent (spCheckSilent K A)) : FnOk P w K mg base (L2.CX P w) 6 f fd pm_Race_init (spRaceInit K A) := by
  refine F.okX sc_Race_init (fun vs H Q E h => ?_) (fun cdv A' outer s H vs Q E hr h => ?_)
  · obtain ⟨_, _, _, _, _, _, _, _, _, rfl, _⟩ := h
    rfl
  · obtain ⟨p, dx, v, z, dz, t, k, xs, g, rfl, hp, hz, hv, hk, hseq, hsm, hx, q1, q2, q3⟩ := h
    refine ⟨_, pss_cons (ps_expr (pe_ownS O_check_ways (hr.mono (by decide)) (takes_of rfl rfl rfl rfl) (pa_cons (pv 1) pa_nil)))
      (pss_cons (ps_expr (pe_ownS O_check_silent (hr.mono (by decide)) (takes_of rfl rfl rfl rfl) (pa_cons (pv 2) pa_nil)))
      (pss_cons (ps_fld (pv 0) (pe_callTy call_tuple_of (by rfl) T.n_tuple (by decide +kernel) (pa_cons (pv 1) pa_nil)) rfl)
      (pss_one (ps_fld (pv 0) (pv 2) rfl)))), ?_⟩
    refine ⟨_, rfl, v, t, k, xs, g, rfl, hv, hk, hseq, hsm, hx, q1, fun hok H1 e1 => ?_⟩
    refine ⟨_, rfl, z, dz, rfl, dp_ext e1 _ _ hz, fun hb H2 e2 e he => q2 hok hb _ (e1.trans e2) e he, fun hb => ?_⟩
    have hkt : k = true := (Bool.and_eq_true_iff.mp (Bool.and_eq_true_iff.mp hok).1).1
    obtain ⟨a, rfl, hs⟩ := hseq hkt
    have hp1 := e1 _ _ hp
    rcases hs with hs | hs
    · refine ⟨_, rfl, a, xs, rfl, .inl ⟨hs.ext e1, fun l hl => ⟨_, rfl, p, A.Race, dx, [], rfl, Ext.upd hl _ _ hp1, T.Race.cl, T.r_ways, (by show 0 < 1000; decide), ?_⟩⟩⟩
      have npl : p ≠ l := ne_of_none hp1 hl
      refine ⟨_, rfl, _, rfl, p, A.Race, dx, _, rfl, upd_same, T.Race.cl, T.r_silent, (by show 1 < 1000; decide), ?_⟩
      refine q3 hok hb _ ⟨l, upd_same, SqT.of (by rw [upd_ne npl.symm, upd_ne npl.symm]; exact upd_same)⟩ fun x o hxp ho => ?_
      rw [upd_ne hxp, upd_ne hxp]
      exact Ext.upd hl _ _ (e1 _ _ ho)
    · refine ⟨_, rfl, a, xs, rfl, .inr ⟨hs.ext e1, _, rfl, p, A.Race, dx, [], rfl, hp1, T.Race.cl, T.r_ways, (by show 0 < 1000; decide), ?_⟩⟩
      refine ⟨_, rfl, _, rfl, p, A.Race, dx, _, rfl, upd_same, T.Race.cl, T.r_silent, (by show 1 < 1000; decide), ?_⟩
      refine q3 hok hb _ ⟨a, upd_same, sqT_mut (H' := upd (upd H1 p _) p _) hp1 (fun x o hxp ho => by rw [upd_ne hxp, upd_ne hxp]; exact ho) (hs.ext e1)⟩ fun x o hxp ho => ?_
      rw [upd_ne hxp, upd_ne hxp]
      exact e1 _ _ ho
end
end K16

set_option Elab.async false
set_option maxRecDepth 100000
set_option maxHeartbeats 4000000
namespace K16
open PySem PySem.Spec PyProof.Rows L2
/-- a way without boxes, told: its begin, its delays -/
abbrev Wd := Option Int × Int × Int
section
variable {P : Program} {w : World} {K : PySem.W.Frag} {mg : Str → Option Value} {base : Heap} {A : Ad}
def WayD (K : PySem.W.Frag) (A : Ad) (H : Hp) (p : Addr) (d : Wd) : Prop := MyWay K A H p d.1 d.2.1 d.2.2 []
def Rway (K : PySem.W.Frag) (A : Ad) : Addr → Addr → Hp → Bool → Prop := fun a b H k => ∃ d d', WayD K A H a d ∧ WayD K A H b d' ∧ k = decide (d = d')
theorem wd_ins {H : Hp} {a : Addr} {d : Wd} (h : WayD K A H a d) : ∃ dx fs, H a = some (.ins A.Way dx fs) := by
  obtain ⟨dx, T, xs, h1, _⟩ := h
  exact ⟨dx, _, h1⟩
theorem wd_uniq {H : Hp} {a : Addr} {d d' : Wd} (h : WayD K A H a d) (h' : WayD K A H a d') : d = d' := by
  obtain ⟨dx, T, xs, h1, _⟩ := h
  obtain ⟨dx', T', xs', h1', _⟩ := h'
  rw [h1] at h1'
  obtain ⟨b, l, m⟩ := d
  obtain ⟨b', l', m'⟩ := d'
  have e := Option.some.inj h1'
  injection e with _ _ e
  unfold wF at e
  injection e with e1 e
  injection e with e2 e
  injection e with e3 e
  injection e1 with _ e1
  injection e2 with _ e2
  injection e3 with _ e3
  injection e2 with e2
  injection e3 with e3
  have e1' : bV b = bV b' := e1
  have eb : b = b' := by
    cases b <;> cases b' <;> first | rfl | (cases e1'; done) | (injection e1' with q; rw [q])
  rw [eb, show l = l' from e2, show m = m' from e3]
abbrev DWay (K : PySem.W.Frag) (A : Ad) : EqvB := DInsB A.Way (Rway K A)
theorem mon_way : MonB (DWay K A) := fun x y H H' k e d => by
  obtain ⟨a, b, dx, dy, fs, gs, rfl, rfl, h1, h2, d1, d2, w1, w2, hk⟩ := d
  exact ⟨a, b, dx, dy, fs, gs, rfl, rfl, e _ _ h1, e _ _ h2, d1, d2, w1.ext e, w2.ext e, hk⟩
theorem way_imp {H : Hp} {Q : VK} {E : XK} {vs : List V} (h : spEqB (Rway K A) vs H Q E) : spWayEq K A vs H Q E := by
  obtain ⟨a, b, k, rfl, ⟨d, d', w1, w2, rfl⟩, q⟩ := h
  obtain ⟨b1, l1, m1⟩ := d
  obtain ⟨b2, l2, m2⟩ := d'
  refine ⟨a, b1, l1, m1, [], .ref b, rfl, w1, .inl ⟨b, b2, l2, m2, [], rfl, w2, ?_⟩⟩
  have z := q H Ext.rfl'
  rwa [show decide ((b1, l1, m1) = (b2, l2, m2)) = decide (b1 = b2 ∧ l1 = l2 ∧ m1 = m2 ∧ ([] : List Bx) = []) by simp] at z
theorem eqB_way {X : Cx} (O : OwnM X.prog X.w X.K X.mg X.base CX0 A.Way "__eq__" 1 pm_Way_eq (spWayEq X.K A)) : EqB X 1 (DWay X.K A) := by
  obtain ⟨f, fd, F, M, hi, hb⟩ := O.ex
  refine (rcB_ins (E := E0) (F.imp fun vs H Q E h => way_imp h) M.at_ hi hb pass0).eqB fun x y H k d => ?_
  obtain ⟨a, b, _, _, _, _, rfl, rfl, _, _, d1, d2, w1, w2, rfl⟩ := d
  refine ⟨a, b, rfl, rfl, fun e => ?_⟩
  subst e
  exact decide_eq_true (wd_uniq w1 w2)
/-- ways that stand in a tuple -/
def Ways (K : PySem.W.Frag) (A : Ad) (H : Hp) (ws : List V) (ds : List Wd) : Prop := ws.length = ds.length ∧ ∀ (i : Nat) (x : V) (d : Wd), ws[i]? = some x → ds[i]? = some d → ∃ q, x = .ref q ∧ WayD K A H q d
theorem Ways.ext {H H' : Hp} {ws : List V} {ds : List Wd} (h : Ways K A H ws ds) (e : Ext H H') : Ways K A H' ws ds := ⟨h.1, fun i x d h1 h2 => by
  obtain ⟨q, e1, w⟩ := h.2 i x d h1 h2
  exact ⟨q, e1, w.ext e⟩⟩
theorem zip_all : ∀ {ds ds' : List Wd}, ds.length = ds'.length → (List.zipWith (fun d d' => decide (d = d')) ds ds').all id = decide (ds = ds')
  | [], [], _ => rfl
  | [], _ :: _, h => nomatch h
  | _ :: _, [], h => nomatch h
  | d :: ds, d' :: ds', h => by
    rw [List.zipWith_cons_cons, List.all_cons, zip_all (Nat.succ.inj h), Bool.eq_iff_iff]
    simp
/-- two tuples of ways of one length compare as what they are told by -/
theorem tup_ways {H : Hp} {a b : Addr} {ws vs : List V} {ds es : List Wd} (ha : SqT K H a ws) (hb : SqT K H b vs) (hw : Ways K A H ws ds) (hv : Ways K A H vs es) (hl : ds.length = es.length) : DTupB K (DWay K A) (.ref a) (.ref b) H (decide (ds = es)) := by
  refine ⟨a, b, ws, vs, List.zipWith (fun d d' => decide (d = d')) ds es, rfl, rfl, ha, hb, by rw [hw.1, hv.1, hl], by rw [List.length_zipWith, hw.1, ← hl, Nat.min_self], fun i x y c h1 h2 h3 => ?_, (zip_all hl).symm⟩
  rw [List.getElem?_zipWith] at h3
  cases e1 : ds[i]? with
  | none => rw [e1] at h3; cases h3
  | some d =>
    cases e2 : es[i]? with
    | none => rw [e1, e2] at h3; cases h3
    | some d' =>
      rw [e1, e2] at h3
      cases h3
      obtain ⟨q, rfl, w1⟩ := hw.2 i x d h1 e1
      obtain ⟨r, rfl, w2⟩ := hv.2 i y d' h2 e2
      obtain ⟨dx, fs, i1⟩ := wd_ins w1
      obtain ⟨dy, gs, i2⟩ := wd_ins w2
      exact ⟨q, r, dx, dy, fs, gs, rfl, rfl, i1, i2, d, d', w1, w2, rfl⟩
def RaceD (K : PySem.W.Frag) (A : Ad) (H : Hp) (p : Addr) (ds : List Wd) (z : Int) : Prop := ∃ dx T ws, H p = some (.ins A.Race dx (rF (.ref T) (.int z))) ∧ SqT K H T ws ∧ Ways K A H ws ds
theorem RaceD.ext {H H' : Hp} {p : Addr} {ds : List Wd} {z : Int} (h : RaceD K A H p ds z) (e : Ext H H') : RaceD K A H' p ds z := by
  obtain ⟨dx, T, ws, h1, h2, h3⟩ := h
  exact ⟨dx, T, ws, e _ _ h1, h2.ext e, h3.ext e⟩
def spRaceEq (K : PySem.W.Frag) (A : Ad) : Sp := fun vs H Q _ => ∃ p ds z v, vs = [.ref p, v] ∧ RaceD K A H p ds z ∧
  ((∃ q es z', v = .ref q ∧ RaceD K A H q es z' ∧ ds.length = es.length ∧ ∀ H', Ext H H' → Q (.bl (decide (ds = es ∧ z = z'))) H') ∨ ∃ a ws, v = .ref a ∧ SqT K H a ws ∧ Q (.bl false) H)
theorem ok_raceEq {f : Addr} {fd : FuncData} (F : Fun K "__eq__" "Race.__eq__" s_Race_eq f fd) (T : Txt K mg A) (O_Way_eq : OwnM P w K mg base CX0 A.Way "__eq__" 1 pm_Way_eq (spWayEq K A)) : FnOk P w K mg base CX0 4 f fd pm_Race_eq (spRaceEq K A) := by
  refine F.ok sc_Race_eq (fun vs H Q E h => ?_) (fun cdv A' outer s H vs Q E hr h => ?_)
  · obtain ⟨_, _, _, _, rfl, _⟩ := h
    rfl
  · obtain ⟨p, ds, z, v, rfl, ⟨dx, T1, ws, hp, hT, hw⟩, h⟩ := h
    refine ⟨_, pss_one (ps_ret (pe_and (pe_callB call_isi (by rfl) T.n_isinstance (by decide +kernel) (pa_cons (pv 1) (pa_cons (pe_gcls T.Race.gC) pa_nil))) (pe_and (pe_cmpR (op_eqB (rcB_tup mon_way (eqB_way O_Way_eq)) (hr.mono (by decide))) (pe_fld (pv 0) rfl) (pe_fld (pv 1) rfl) (nomark _)) (pe_one (pe_cmpR op_eq (pe_fld (pv 0) rfl) (pe_fld (pv 1) rfl) (nomark _)))))), ?_⟩
    rcases h with ⟨q, es, z', rfl, ⟨dy, T2, us, hq, hT2, hv⟩, hl, k⟩ | ⟨a, us, rfl, ha, h⟩
    · refine ⟨_, rfl, _, .ref A.Race, .ref A.Race, .ref A.Race, true, rfl, .own _, T.Race.tyOf hq, T.Race.me, _, rfl, ?_⟩
      refine iteT ?_
      refine ⟨_, rfl, p, A.Race, dx, _, _, rfl, hp, T.Race.cl, T.r_ways, rfl, _, rfl, q, A.Race, dy, _, _, rfl, hq, T.Race.cl, T.r_ways, rfl, ?_⟩
      refine ⟨_, tup_ways hT hT2 hw hv hl, fun H1 e1 => ⟨_, rfl, ?_⟩⟩
      by_cases h1 : ds = es
      · rw [decide_eq_true h1]
        refine iteT ?_
        refine ⟨_, rfl, p, A.Race, dx, _, _, rfl, e1 _ _ hp, T.Race.cl, T.r_silent, rfl, _, rfl, q, A.Race, dy, _, _, rfl, e1 _ _ hq, T.Race.cl, T.r_silent, rfl, rfl, ?_⟩
        have kk := k H1 e1
        rw [show decide (ds = es ∧ z = z') = decide (V.int z = V.int z') by rw [dvi]; simp [h1]] at kk
        exact kk
      · rw [decide_eq_false h1]
        have kk := k H1 e1
        rw [decide_eq_false (fun h => h1 h.1)] at kk
        exact iteF kk
    · have kf : PySem.W.kitOne K (.type "tuple") (.ref A.Race) = some false := T.Race.kitB (sub_ty_ref (by decide +kernel)) rfl
      have ty : TyX K H (.ref a) (.type "tuple") := by
        rcases ha with (h | ⟨o, h⟩) | ⟨o, its, n, e, c, _⟩
        · exact .base (.tup h)
        · exact .fTuple h
        · exact .kTuple e c
      refine ⟨_, rfl, _, .ref A.Race, .type "tuple", .ref A.Race, false, rfl, .own _, ty, kf, _, rfl, ?_⟩
      exact iteF h
end
end K16

set_option Elab.async false
set_option maxRecDepth 100000
set_option maxHeartbeats 4000000
namespace K16
open PySem PySem.Spec PyProof.Rows L2
/-! ### the state that is drawn from: a list of the cells and a count -/
def StAt (H : Hp) (b s : Addr) (N : Nat) : Prop := ∃ (ns : List Int) (i : Int), H b = some (.lst [.ref s, .int i]) ∧ H s = some (.lst (ns.map V.int)) ∧ ns.length ≤ 63 ∧ 0 ≤ i ∧ i ≤ N
def ExtS (b s : Addr) (H H' : Hp) : Prop := ∀ x o, x ≠ b → x ≠ s → H x = some o → H' x = some o
theorem ExtS.rfl' {b s : Addr} {H : Hp} : ExtS b s H H := fun _ _ _ _ h => h
theorem ExtS.trans {b s : Addr} {H H1 H2 : Hp} (a : ExtS b s H H1) (c : ExtS b s H1 H2) : ExtS b s H H2 := fun x o h1 h2 e => c x o h1 h2 (a x o h1 h2 e)
theorem Ext.s {b s : Addr} {H H' : Hp} (h : Ext H H') : ExtS b s H H' := fun x o _ _ e => h x o e
theorem StAt.ext {b s : Addr} {H H' : Hp} {N : Nat} (h : StAt H b s N) (e : Ext H H') : StAt H' b s N := by
  obtain ⟨ns, i, hb, hs, h⟩ := h
  exact ⟨ns, i, e _ _ hb, e _ _ hs, h⟩
theorem StAt.le {b s : Addr} {H : Hp} {N M : Nat} (h : StAt H b s N) (e : N ≤ M) : StAt H b s M := by
  obtain ⟨ns, i, hb, hs, h1, h2, h3⟩ := h
  exact ⟨ns, i, hb, hs, h1, h2, by omega⟩
theorem StAt.new {b s l : Addr} {H : Hp} {N : Nat} (h : StAt H b s N) (hl : H l = none) : l ≠ b ∧ l ≠ s := by
  obtain ⟨ns, i, hb, hs, _⟩ := h
  exact ⟨(ne_of_none hb hl).symm, (ne_of_none hs hl).symm⟩
theorem StAt.upd {b s l : Addr} {H : Hp} {N : Nat} {o : HO} (h : StAt H b s N) (hb : l ≠ b) (hs : l ≠ s) : StAt (L2.upd H l o) b s N := by
  obtain ⟨ns, i, h1, h2, h⟩ := h
  exact ⟨ns, i, by rw [upd_ne hb.symm]; exact h1, by rw [upd_ne hs.symm]; exact h2, h⟩
theorem ExtS.mut {b s l : Addr} {H H' : Hp} {o : HO} (e : ExtS b s H H') (hl : H l = none) : ExtS b s H (L2.upd H' l o) := fun x u h1 h2 h => by
  rw [upd_ne (ne_of_none h hl)]
  exact e x u h1 h2 h
theorem ExtS.none {b s t : Addr} {H H' : Hp} (e : ExtS b s H H') (h1 : t ≠ b) (h2 : t ≠ s) (h : H' t = none) : H t = none := by
  cases z : H t with
  | none => rfl
  | some o =>
    rw [e t o h1 h2 z] at h
    cases h
section
variable {P : Program} {w : World} {K : PySem.W.Frag} {mg : Str → Option Value} {base : Heap} {A : Ad}
def spDraw : Sp := fun vs H Q _ => ∃ (b s : Addr) (N : Nat) (L : Int), vs = [.ref b, .int L] ∧ StAt H b s N ∧ N ≤ 1000000 ∧ 1 ≤ L ∧ L ≤ 100000 ∧
  ∀ n H', 0 ≤ n → n < L → StAt H' b s (N + 1) → ExtS b s H H' → Q (.int n) H'
theorem ok_draw {f : Addr} {fd : FuncData} (F : Fun K "_law_draw" "_law_draw" s__law_draw f fd) (T : Txt K mg A) : FnOk P w K mg base CX0 1 f fd pm__law_draw spDraw := by
  refine F.ok sc__law_draw (fun vs H Q E h => ?_) (fun cdv A' outer sh H vs Q E hr h => ?_)
  · obtain ⟨_, _, _, _, rfl, _⟩ := h
    rfl
  · obtain ⟨b, s, N, L, rfl, ⟨ns, i, hb, hs, n63, i0, iN⟩, hN, hL, hL2, k⟩ := h
    have nsb : s ≠ b := ne_of hs hb (by intro z; injection z with z; cases ns <;> simp at z)
    refine ⟨_, pss_cons (ps_set (i := 2) sc__law_draw.nd rfl (Or.inl rfl) (pe_ix ix_list (pv 0) (pe_int) (fun _ _ => rfl)))
      (pss_cons (ps_if (pt_not (pt_truth (pv 2) (by intro _; rfl))) (pss_one (ps_ret (pe_int))) (pss_nil))
      (pss_cons (ps_set (i := 3) sc__law_draw.nd rfl (Or.inl rfl) (pe_op op_modN (pe_callTy call_int1 (by rfl) T.n_int (by decide +kernel) (pa_cons (pe_ix ix_list (pv 0) (pe_int) (fun _ _ => rfl)) pa_nil)) (pe_callB call_len_seq (by rfl) T.n_len (by decide +kernel) (pa_cons (pv 2) pa_nil))))
      (pss_cons (ps_set (i := 4) sc__law_draw.nd rfl (Or.inl rfl) (pe_ix ix_list (pv 2) (pv 3) (fun _ _ => rfl)))
      (pss_cons (ps_asg (pe_op op_add (pe_ix ix_list (pv 0) (pe_int) (fun _ _ => rfl)) (pe_int)) (pg_sub (pv 0) (pe_int) set_list))
      (pss_cons (ps_if (pt_cmpR op_ge (pv 4) (pe_op op_pow (pe_int) (pe_int)) (nomark _)) (pss_cons (ps_asg (pe_op op_fdivN (pv 4) (pv 1)) (pg_sub (pv 2) (pv 3) set_list))
      (pss_one (ps_ret (pe_op op_modN (pe_callTy call_int1 (by rfl) T.n_int (by decide +kernel) (pa_cons (pv 4) pa_nil)) (pv 1))))) (pss_nil))
      (pss_cons (ps_set (i := 5) sc__law_draw.nd rfl (Or.inl rfl) (pe_op op_mod (pe_callTy call_int1 (by rfl) T.n_int (by decide +kernel) (pa_cons (pe_op op_add (pe_op op_add (pe_op op_mul (pv 4) (pe_int)) (pe_op op_mul (pe_ix ix_list (pv 0) (pe_int) (fun _ _ => rfl)) (pe_int))) (pe_int)) pa_nil)) (pe_int)))
      (pss_one (ps_ret (pe_op op_modN (pe_op op_mod (pe_callTy call_int1 (by rfl) T.n_int (by decide +kernel) (pa_cons (pe_op op_add (pe_op op_mul (pv 5) (pe_int)) (pe_op op_mul (pe_ix ix_list (pv 0) (pe_int) (fun _ _ => rfl)) (pe_int))) pa_nil)) (pe_int)) (pv 1)))))))))), ?_⟩
    refine ⟨_, rfl, b, _, 0, .ref s, rfl, rfl, SqL.of hb, rfl, ?_⟩
    refine ⟨_, rfl, _, .inl ⟨_, SqL.of hs, rfl⟩, ?_⟩
    by_cases hl0 : ns.length = 0
    · have hns := List.length_eq_zero_iff.mp hl0
      subst hns
      exact iteT (k 0 H (Int.le_refl _) (by omega) ⟨[], i, hb, hs, n63, i0, by omega⟩ ExtS.rfl')
    · have hne : (!(!(ns.map V.int).isEmpty)) = false := by
        cases ns with
        | nil => exact absurd rfl hl0
        | cons _ _ => rfl
      show if (!(!(ns.map V.int).isEmpty)) = true then _ else _
      rw [hne]
      refine iteF ?_
      have hlp : (0 : Int) < (ns.length : Int) := by omega
      obtain ⟨j, hj⟩ : ∃ j : Nat, i.fmod (ns.length : Int) = (j : Int) := ⟨(i.fmod (ns.length : Int)).toNat, (Int.toNat_of_nonneg (Int.fmod_nonneg_of_pos _ hlp)).symm⟩
      have hjl : j < ns.length := by
        have z := Int.fmod_lt_of_pos i hlp
        omega
      refine ⟨_, rfl, b, _, 1, .int i, rfl, rfl, SqL.of hb, rfl, .inl ⟨_, rfl, _, rfl, s, _, rfl, .inl (SqL.of hs), _, _, rfl, rfl, (by show ((ns.map V.int).length : Int) ≠ 0; rw [List.length_map]; omega), ?_⟩⟩
      have hj' : i.fmod ((ns.map V.int).length : Int) = (j : Int) := by rw [List.length_map]; exact hj
      have hjv : (ns.map V.int)[j]? = some (.int ns[j]) := by rw [List.getElem?_map, List.getElem?_eq_getElem hjl] <;> rfl
      refine ⟨_, rfl, _, rfl, s, _, _, .int ns[j], rfl, rfl, SqL.of hs, by rw [hj']; exact atI_nat hjv, ?_⟩
      generalize ns[j] = c
      refine ⟨_, rfl, b, _, 1, .int i, rfl, rfl, SqL.of hb, rfl, _, _, rfl, rfl, _, rfl, b, _, 1, 1, rfl, rfl, hb, rfl, ?_⟩
      have hb1 : upd H b (.lst ([V.ref s, .int i].set 1 (.int (i + 1)))) b = some (.lst [.ref s, .int (i + 1)]) := upd_same
      have hs1 : upd H b (.lst ([V.ref s, .int i].set 1 (.int (i + 1)))) s = some (.lst (ns.map V.int)) := by
        rw [upd_ne nsb]
        exact hs
      have x1 : ExtS b s H (upd H b (.lst ([V.ref s, .int i].set 1 (.int (i + 1))))) := fun x o h1 _ h => by
        rw [upd_ne h1]
        exact h
      generalize upd H b (.lst ([V.ref s, .int i].set 1 (.int (i + 1)))) = H1 at hb1 hs1 x1 ⊢
      refine ⟨_, rfl, _, _, rfl, rfl, ⟨by decide, by decide, by decide⟩, _, _, rfl, rfl, _, rfl, ?_⟩
      by_cases hc : c ≥ 10 ^ (18 : Int).toNat
      · rw [decide_eq_true hc]
        refine iteT ⟨_, rfl, _, rfl, _, _, rfl, rfl, ⟨by omega, by omega⟩, _, rfl, _, rfl, s, _, _, j, rfl, rfl, hs1, (by rw [hj']; exact Evl.ixN_nat (by rw [List.length_map]; exact hjl)), ?_⟩
        refine ⟨_, rfl, .inl ⟨_, rfl, _, rfl, _, _, rfl, rfl, (by show L ≠ 0; omega), ?_⟩⟩
        refine k _ _ (Int.fmod_nonneg_of_pos _ (by omega)) (Int.fmod_lt_of_pos _ (by omega)) ⟨ns.set j (c.fdiv L), i + 1, by rw [upd_ne nsb.symm]; exact hb1, ?_, by rw [List.length_set]; exact n63, by omega, by omega⟩ fun x o h1 h2 h => ?_
        · rw [upd_same, List.map_set]
        · rw [upd_ne h2]
          exact x1 x o h1 h2 h
      · rw [decide_eq_false hc]
        refine iteF ?_
        refine ⟨_, rfl, _, _, rfl, rfl, .inr ⟨by decide, by decide⟩, _, rfl, b, _, 1, .int (i + 1), rfl, rfl, SqL.of hb1, rfl, _, _, rfl, rfl, .inr ⟨by decide, by decide⟩, _, _, rfl, rfl, _, _, rfl, rfl, .inl ⟨_, rfl, _, _, rfl, rfl, (by show (0 : Int) < 2147483647; decide), ?_⟩⟩
        refine ⟨_, rfl, _, _, rfl, rfl, .inr ⟨by decide, by decide⟩, _, rfl, b, _, 1, .int (i + 1), rfl, rfl, SqL.of hb1, rfl, _, _, rfl, rfl, .inr ⟨by decide, by decide⟩, _, _, rfl, rfl, .inl ⟨_, rfl, _, _, rfl, rfl, (by show (0 : Int) < 2147483629; decide), _, rfl, _, _, rfl, rfl, (by show L ≠ 0; omega), ?_⟩⟩
        exact k _ _ (Int.fmod_nonneg_of_pos _ (by omega)) (Int.fmod_lt_of_pos _ (by omega)) ⟨ns, i + 1, hb1, hs1, n63, by omega, by omega⟩ x1
/-- the three numbers of a way, as they stand in a tuple -/
def w3 (d : Wd) : List V := [bV d.1, .int d.2.1, .int d.2.2]
def goodW (d : Wd) : Prop := (∀ n, d.1 = some n → 0 ≤ n ∧ n ≤ 4) ∧ 1 ≤ d.2.1 ∧ d.2.1 ≤ d.2.2 ∧ d.2.2 ≤ 10
def spWay : Sp := fun vs H Q _ => ∃ (b s : Addr) (N : Nat), vs = [.ref b] ∧ StAt H b s N ∧ N ≤ 900000 ∧ ∀ q d H', goodW d → H' q = some (.tup (w3 d)) → q ≠ b → q ≠ s → H q = none → StAt H' b s (N + 3) → ExtS b s H H' → Q (.ref q) H'
theorem ok_way {f : Addr} {fd : FuncData} (F : Fun K "_law_way" "_law_way" s__law_way f fd) (O__law_draw : Own P w K mg base CX0 "_law_draw" 1 pm__law_draw spDraw) : FnOk P w K mg base CX0 2 f fd pm__law_way spWay := by
  refine F.ok sc__law_way (fun vs H Q E h => ?_) (fun cdv A' outer sh H vs Q E hr h => ?_)
  · obtain ⟨_, _, _, rfl, _⟩ := h
    rfl
  · obtain ⟨b, s, N, rfl, hst, hN, k⟩ := h
    refine ⟨_, pss_cons (ps_set (i := 1) sc__law_way.nd rfl (Or.inl rfl) (pe_own O__law_draw (hr.mono (by decide)) pass0 (pa_cons (pv 0) (pa_cons (pe_int) pa_nil))))
      (Evl.pss_cut (ps_if (pt_cmpR op_eq (pv 1) (pe_int) (nomark _)) (pss_one (ps_set (i := 1) sc__law_way.nd rfl (Or.inl rfl) (pe_non))) (pss_nil))
      (pss_cons (ps_set (i := 2) sc__law_way.nd rfl (Or.inl rfl) (pe_op op_add (pe_int) (pe_own O__law_draw (hr.mono (by decide)) pass0 (pa_cons (pv 0) (pa_cons (pe_int) pa_nil)))))
      (pss_one (ps_ret (pe_tup (pa_cons (pv 1) (pa_cons (pv 2) (pa_cons (pe_op op_add (pv 2) (pe_own O__law_draw (hr.mono (by decide)) pass0 (pa_cons (pv 0) (pa_cons (pe_int) pa_nil)))) pa_nil)))))))), ?_⟩
    refine ⟨_, rfl, b, s, N, 6, rfl, hst, by omega, by omega, by omega, fun n H1 n0 n6 st1 x1 => ?_⟩
    refine ⟨fun σ H' => H' = H1 ∧ ∃ bo, σ = [some (.ref b), some (bV bo), Option.none] ∧ ∀ n, bo = some n → 0 ≤ n ∧ n ≤ 4, ?_, ?_⟩
    · refine ⟨_, rfl, rfl, _, rfl, ?_⟩
      rw [dvi]
      by_cases h5 : n = 5
      · rw [decide_eq_true h5]
        exact iteT ⟨rfl, none, rfl, fun n h => nomatch h⟩
      · rw [decide_eq_false h5]
        exact iteF ⟨rfl, some n, rfl, fun m h => by cases h; omega⟩
    · rintro σ H2 ⟨rfl, bo, rfl, hbo⟩
      refine ⟨_, rfl, b, s, N + 1, 3, rfl, st1, by omega, by omega, by omega, fun d2 H2 d20 d23 st2 x2 => ⟨_, _, rfl, rfl, ?_⟩⟩
      refine ⟨_, rfl, _, rfl, _, rfl, _, rfl, b, s, N + 2, 2, rfl, st2, by omega, by omega, by omega, fun d3 H3 d30 d32 st3 x3 => ⟨_, _, rfl, rfl, by show 3 ≤ sizeLine; decide, fun q hq => ?_⟩⟩
      obtain ⟨nb, ns⟩ := st3.new hq
      have x03 := (x1.trans x2).trans x3
      exact k q (bo, 1 + d2, 1 + d2 + d3) _ ⟨hbo, by show 1 ≤ 1 + d2; omega, by show 1 + d2 ≤ 1 + d2 + d3; omega, by show 1 + d2 + d3 ≤ 10; omega⟩ upd_same nb ns (x03.none nb ns hq) (st3.ext (Ext.upd hq)) (x03.trans (Ext.s (Ext.upd hq)))
/-- tuples of such numbers -/
def Tups (b s : Addr) (H : Hp) (qs : List V) (ds : List Wd) : Prop := qs.length = ds.length ∧ ∀ (i : Nat) (x : V) (d : Wd), qs[i]? = some x → ds[i]? = some d → goodW d ∧ ∃ q, x = .ref q ∧ H q = some (.tup (w3 d)) ∧ q ≠ b ∧ q ≠ s
theorem Tups.to {b s : Addr} {H H' : Hp} {qs : List V} {ds : List Wd} (h : Tups b s H qs ds) (e : ExtS b s H H') : Tups b s H' qs ds := ⟨h.1, fun i x d h1 h2 => by
  obtain ⟨g, q, e1, e2, e3, e4⟩ := h.2 i x d h1 h2
  exact ⟨g, q, e1, e q _ e3 e4 e2, e3, e4⟩⟩
theorem Tups.snoc {b s q : Addr} {H : Hp} {qs : List V} {ds : List Wd} {d : Wd} (h : Tups b s H qs ds) (g : goodW d) (hq : H q = some (.tup (w3 d))) (nb : q ≠ b) (ns : q ≠ s) : Tups b s H (qs ++ [.ref q]) (ds ++ [d]) := by
  refine ⟨by rw [List.length_append, List.length_append, h.1]; rfl, fun i x e h1 h2 => ?_⟩
  by_cases hi : i < qs.length
  · rw [List.getElem?_append_left hi] at h1
    rw [List.getElem?_append_left (by rw [← h.1]; exact hi)] at h2
    exact h.2 i x e h1 h2
  · rw [List.getElem?_append_right (by omega)] at h1
    rw [List.getElem?_append_right (by rw [← h.1]; omega)] at h2
    have hj : ∀ j : Nat, ([V.ref q] : List V)[j]? = some x → x = .ref q := fun j h => by
      cases j with
      | zero => cases h; rfl
      | succ j => cases h
    have hk : ∀ j : Nat, ([d] : List Wd)[j]? = some e → e = d := fun j h => by
      cases j with
      | zero => cases h; rfl
      | succ j => cases h
    rw [hj _ h1, hk _ h2]
    exact ⟨g, q, rfl, hq, nb, ns⟩
def spWays : Sp := fun vs H Q _ => ∃ (b s : Addr) (N : Nat) (M : Int), vs = [.ref b, .int M] ∧ StAt H b s N ∧ N ≤ 800000 ∧ 1 ≤ M ∧ M ≤ 10 ∧
  ∀ D qs ds H', H' D = some (.lst qs) → D ≠ b → D ≠ s → Tups b s H' qs ds → 1 ≤ ds.length → (ds.length : Int) ≤ M → StAt H' b s (N + 40) → ExtS b s H H' → Q (.ref D) H'
theorem ok_ways {f : Addr} {fd : FuncData} (F : Fun K "_law_ways" "_law_ways" s__law_ways f fd) (T : Txt K mg A) (O__law_draw : Own P w K mg base CX0 "_law_draw" 1 pm__law_draw spDraw) (O__law_way : Own P w K mg base CX0 "_law_way" 2 pm__law_way spWay) : FnOk P w K mg base CX0 3 f fd pm__law_ways spWays := by
  refine F.ok sc__law_ways (fun vs H Q E h => ?_) (fun cdv A' outer sh H vs Q E hr h => ?_)
  · obtain ⟨_, _, _, _, rfl, _⟩ := h
    rfl
  · obtain ⟨b, s, N, M, rfl, hst, hN, hM, hM2, k⟩ := h
    refine ⟨_, pss_one (ps_ret (pe_lc (own := [("_law_k", 2)]) (g := gName 2) (by rfl) sc__law_ways.nd (pi_range1 rfl T.n_range (pa_cons (pe_op op_add (pe_int) (pe_own O__law_draw (hr.mono (by decide)) pass0 (pa_cons (pv 0) (pa_cons (pv 1) pa_nil)))) pa_nil)) (blkOk_by (own := [("_law_k", 2)]) (N := nm__law_ways) (sc := defScope s__law_ways) (by decide +kernel)) (fun _ _ _ _ _ => pg_name (i := 2) sc__law_ways.nd rfl (Or.inl rfl)) (fun _ _ _ _ _ => pts_nil) (fun _ _ _ _ _ => pe_own O__law_way (hr.mono (by decide)) pass0 (pa_cons (pv 0) pa_nil)))), ?_⟩
    refine ⟨_, rfl, _, rfl, b, s, N, M, rfl, hst, by omega, by omega, by omega, fun n H1 n0 nM st1 x1 => ⟨_, _, rfl, rfl, 1 + n, rfl, by omega, by omega, fun D hD => ?_⟩⟩
    obtain ⟨nb, ns⟩ := st1.new hD
    refine lc_range (fun i H' => ∃ qs ds, H' D = some (.lst qs) ∧ ds.length = i ∧ Tups b s H' qs ds ∧ StAt H' b s (N + 1 + 3 * i) ∧ ExtS b s H H') ⟨[], [], upd_same, rfl, ⟨rfl, fun i x d h => nomatch h⟩, st1.ext (Ext.upd hD), x1.trans (Ext.s (Ext.upd hD))⟩ (fun i H2 hi pv => ?_) (fun H2 pv => ?_)
    · obtain ⟨qs, ds, hl, hlen, ht, st, x2⟩ := pv
      refine ⟨rfl, _, rfl, b, s, _, rfl, st, by omega, fun q d H3 hg hq nqb nqs hqn st3 x3 => ⟨qs, x3 D _ nb ns hl, Nat.lt_trans (show qs.length < 20 by rw [ht.1, hlen]; omega) (by decide), qs ++ [.ref q], ds ++ [d], upd_same, by rw [List.length_append, hlen]; rfl, ?_, (st3.upd nb ns).le (by omega), (x2.trans x3).mut (x1.none nb ns hD)⟩⟩
      have nqD : q ≠ D := fun z => by rw [z, hl] at hqn; cases hqn
      refine Tups.snoc ?_ hg (by rw [upd_ne nqD]; exact hq) nqb nqs
      have t3 := ht.to x3
      refine ⟨t3.1, fun i x d h1 h2 => ?_⟩
      obtain ⟨g, r, e1, e2, e3, e4⟩ := t3.2 i x d h1 h2
      have nrD : r ≠ D := fun z => by
        have z1 := x3 D _ nb ns hl
        rw [z, z1] at e2
        cases e2
      exact ⟨g, r, e1, by rw [upd_ne nrD]; exact e2, e3, e4⟩
    · obtain ⟨qs, ds, hl, hlen, ht, st, x2⟩ := pv
      exact k D qs ds H2 hl nb ns ht (by omega) (by omega) (st.le (by omega)) x2
end
end K16

set_option Elab.async false
set_option maxRecDepth 100000
set_option maxHeartbeats 4000000
namespace K16
open PySem PySem.Spec PyProof.Rows L2
section
variable {P : Program} {w : World} {K : PySem.W.Frag} {mg : Str → Option Value} {base : Heap} {A : Ad}
/-- a way without boxes is made, by the default -/
theorem mk_way0 {H1 : Hp} {d : Wd} {R : VK} {E : XK} {x0 dx : Addr} (T : Txt K mg A) (hx0 : H1 x0 = none) (hdx : H1 dx = none) (hne : dx ≠ x0) (hb : bOk d.1) (hd : 1 ≤ d.2.1 ∧ d.2.1 ≤ d.2.2 ∧ d.2.2 ≤ 50)
    (q : ∀ H', Ext H1 H' → WayD K A H' x0 d → R .non H') : spWayInit K A (.ref x0 :: [bV d.1, .int d.2.1, .int d.2.2, .ref A.T0]) (upd (upd H1 dx (.own x0)) x0 (.ins A.Way dx [])) R E := by
  have e0 := (Ext.upd (o := .own x0) hdx).upd' (o := .ins A.Way dx []) (by rw [upd_ne hne.symm]; exact hx0)
  have due := due_ok (bs := []) (x := .tuple []) hb hd (.inr rfl) (Nat.zero_le _) (fun q h => nomatch h)
  refine ⟨x0, dx, bV d.1, .int d.2.1, .int d.2.2, .ref A.T0, bD d.1, .int d.2.1, .int d.2.2, .tuple [], rfl, upd_same, bV_dp _, .int _, .int _, .tup (T.t0 _) .nil, fun s hs => (by rw [due] at hs; cases hs), fun i hi => (by rw [due] at hi; cases hi), fun _ ds H' hds hw hB => ?_⟩
  cases hds
  obtain ⟨T2, ys, h1, h2, h3⟩ := hw
  exact q H' (fun a o h => hB a o (ne_of_none h hx0) (e0 a o h)) ⟨dx, T2, ys, h1, h2, h3⟩
theorem sqT_mutL {H H' : Hp} {D a : Addr} {ys xs : List V} (hD : H D = some (.lst ys)) (e : ∀ x o, x ≠ D → H x = some o → H' x = some o) (h : SqT K H a xs) : SqT K H' a xs := by
  rcases h with (h | ⟨o, h⟩) | h
  · exact .inl (.inl (e a _ (fun z => by rw [z, hD] at h; cases h) h))
  · exact .inl (.inr ⟨o, e a _ (fun z => by rw [z, hD] at h; cases h) h⟩)
  · exact .inr h
theorem wd_mut {H H' : Hp} {D p : Addr} {ys : List V} {d : Wd} (hD : H D = some (.lst ys)) (e : ∀ x o, x ≠ D → H x = some o → H' x = some o) (h : WayD K A H p d) : WayD K A H' p d := by
  obtain ⟨dx, T, xs, h1, h2, h3⟩ := h
  have h3' : DpAll K H xs [] := h3
  cases h3'
  exact ⟨dx, T, _, e _ _ (fun z => by rw [z, hD] at h1; cases h1) h1, sqT_mutL hD e h2, .nil⟩
theorem Ways.mut {H H' : Hp} {D : Addr} {ys ws : List V} {ds : List Wd} (hD : H D = some (.lst ys)) (e : ∀ x o, x ≠ D → H x = some o → H' x = some o) (h : Ways K A H ws ds) : Ways K A H' ws ds := ⟨h.1, fun i x d h1 h2 => by
  obtain ⟨q, e1, w⟩ := h.2 i x d h1 h2
  exact ⟨q, e1, wd_mut hD e w⟩⟩
theorem Ways.snoc {H : Hp} {ws : List V} {ds : List Wd} {q : Addr} {d : Wd} (h : Ways K A H ws ds) (w : WayD K A H q d) : Ways K A H (ws ++ [.ref q]) (ds ++ [d]) := by
  refine ⟨by rw [List.length_append, List.length_append, h.1]; rfl, fun i x e h1 h2 => ?_⟩
  by_cases hi : i < ws.length
  · rw [List.getElem?_append_left hi] at h1
    rw [List.getElem?_append_left (by rw [← h.1]; exact hi)] at h2
    exact h.2 i x e h1 h2
  · rw [List.getElem?_append_right (by omega)] at h1
    rw [List.getElem?_append_right (by rw [← h.1]; omega), ← h.1] at h2
    cases z : i - ws.length with
    | zero =>
      rw [z] at h1 h2
      cases h1
      cases h2
      exact ⟨q, rfl, w⟩
    | succ j =>
      rw [z] at h1
      cases h1
theorem good_b {d : Wd} (g : goodW d) : bOk d.1 := fun n h => by
  obtain ⟨a, b⟩ := g.1 n h
  omega
def spMade (K : PySem.W.Frag) (A : Ad) : Sp := fun vs H Q _ => ∃ (D b s : Addr) (qs : List V) (ds : List Wd), vs = [.ref D] ∧ H D = some (.lst qs) ∧ Tups b s H qs ds ∧ qs.length ≤ 1000 ∧ ∀ M ps H', Ext H H' → H M = none → H' M = some (.lst ps) → Ways K A H' ps ds → Q (.ref M) H'
theorem ok_made {f : Addr} {fd : FuncData} (F : Fun K "_law_made" "_law_made" s__law_made f fd) (T : Txt K mg A) (O_Way3 : OwnCD P w K mg base (L2.CX P w) "Way" A.Way 5 pm_Way_init (spWayInit K A) [.ref A.T0]) : FnOk P w K mg base CX0 8 f fd pm__law_made (spMade K A) := by
  refine F.ok sc__law_made (fun vs H Q E h => ?_) (fun cdv A' outer sh H vs Q E hr h => ?_)
  · obtain ⟨_, _, _, _, _, rfl, _⟩ := h
    rfl
  · obtain ⟨D, b, s, qs, ds, rfl, hD, ht, hsm, k⟩ := h
    have hIx : ∀ s1 H1 sc ce fp, IxR ((cxOf CX0 P w K mg base nm__law_made "_law_made" (defScope s__law_made) f cdv A' outer sh H E).nox.blk s1 H1 sc ce fp) (rIxT K) := fun s1 H1 sc ce fp => ix_tup (X := (cxOf CX0 P w K mg base nm__law_made "_law_made" (defScope s__law_made) f cdv A' outer sh H E).nox.blk s1 H1 sc ce fp)
    refine ⟨_, pss_one (ps_ret (pe_lc (own := [("_law_way_here", 1)]) (g := gName 1) (by rfl) sc__law_made.nd (pi_list (pv 0)) (blkOk_by (own := [("_law_way_here", 1)]) (N := nm__law_made) (sc := defScope s__law_made) (by decide +kernel)) (fun _ _ _ _ _ => pg_name (i := 1) sc__law_made.nd rfl (Or.inl rfl)) (fun _ _ _ _ _ => pts_nil)
      (fun s1 H1 C1 cl fp => pe_newD O_Way3 (hr.mono (by decide)) passL (pa_cons (pe_ix (hIx _ _ _ _ _) (pv 1) (pe_int) (fun _ _ => rfl)) (pa_cons (pe_ix (hIx _ _ _ _ _) (pv 1) (pe_int) (fun _ _ => rfl)) (pa_cons (pe_ix (hIx _ _ _ _ _) (pv 1) (pe_int) (fun _ _ => rfl)) pa_nil)))))), ?_⟩
    refine ⟨_, rfl, D, rfl, ⟨_, SqL.of hD⟩, fun M hM => ?_⟩
    refine lc_list (xs := qs) (fun i H' => Ext H H' ∧ ∃ ps, H' M = some (.lst ps) ∧ Ways K A H' ps (ds.take i)) ⟨Ext.upd hM, [], upd_same, ⟨rfl, fun i x d h => nomatch h⟩⟩ (fun i H' _ pv => SqL.of (pv.1 _ _ hD)) (fun i x H' hi pv => ?_) (fun H' pv => ?_)
    · obtain ⟨e1, ps, hps, hw⟩ := pv
      have hil : i < qs.length := (List.getElem?_eq_some_iff.mp hi).1
      obtain ⟨d, hd⟩ : ∃ d, ds[i]? = some d := ⟨_, List.getElem?_eq_getElem (by rw [← ht.1]; exact hil)⟩
      obtain ⟨g, q, rfl, hq, _, _⟩ := ht.2 i x d hi hd
      have hq1 := e1 _ _ hq
      refine ⟨rfl, _, rfl, q, _, 0, bV d.1, rfl, rfl, SqT.of hq1, rfl, _, rfl, q, _, 1, .int d.2.1, rfl, rfl, SqT.of hq1, rfl, _, rfl, q, _, 2, .int d.2.2, rfl, rfl, SqT.of hq1, rfl, fun x0 dn hx0 hdx0 hne0 => mk_way0 T hx0 hdx0 hne0 (good_b g) ⟨g.2.1, g.2.2.1, Int.le_trans g.2.2.2 (by decide)⟩ fun H2 e2 hw2 => ⟨rfl, ps, e2 _ _ hps, ?_, ?_⟩⟩
      · have z := hw.1
        rw [List.length_take] at z
        exact Nat.lt_of_le_of_lt (show ps.length ≤ 1000 by omega) (by decide)
      · have hM2 := e2 _ _ hps
        have mt : ∀ y o, y ≠ M → H2 y = some o → upd H2 M (.lst (ps ++ [.ref x0])) y = some o := fun y o hy h => by
          rw [upd_ne hy]
          exact h
        refine ⟨ext_mut (e1.trans e2) hM, ps ++ [.ref x0], upd_same, ?_⟩
        rw [take_snoc hd]
        exact Ways.snoc (Ways.mut hM2 mt (hw.ext e2)) (wd_mut hM2 mt hw2)
    · obtain ⟨e1, ps, hps, hw⟩ := pv
      rw [show qs.length = ds.length from ht.1, List.take_length] at hw
      exact k M ps H' e1 hM hps hw
end
end K16

set_option Elab.async false
set_option maxRecDepth 100000
set_option maxHeartbeats 4000000
namespace K16
open PySem PySem.Spec PyProof.Rows L2
section
variable {P : Program} {w : World} {K : PySem.W.Frag} {mg : Str → Option Value} {base : Heap} {A : Ad}
def has (ds : List Wd) (j : Nat) : Bool := match ds[j]? with | some d => d.1.isSome | none => false
/-- the places of the ways that have a begin, of the first i -/
def pl (ds : List Wd) (i : Nat) : List Int := List.map (fun j : Nat => (j : Int)) ((List.range i).filter (has ds))
theorem pl_succ (ds : List Wd) (i : Nat) : pl ds (i + 1) = pl ds i ++ (if has ds i = true then [(i : Int)] else []) := by
  unfold pl
  rw [List.range_succ, List.filter_append, List.map_append]
  cases h : has ds i <;> simp [h]
theorem pl_len (ds : List Wd) (i : Nat) : (pl ds i).length ≤ i := by
  unfold pl
  rw [List.length_map]
  exact Nat.le_trans (List.length_filter_le _ _) (by simp)
theorem has_at {ds : List Wd} {i : Nat} {d : Wd} (h : ds[i]? = some d) : has ds i = !decide (bV d.1 = .non) := by
  unfold has
  rw [h]
  cases hd : d.1 <;> simp [bV, hd]
def spPlanned (K : PySem.W.Frag) (A : Ad) : Sp := fun vs H Q _ => ∃ p ds z, vs = [.ref p] ∧ RaceD K A H p ds z ∧ ds.length ≤ 1000 ∧ ∀ t H', Ext H H' → H' t = some (.tup ((pl ds ds.length).map V.int)) → Q (.ref t) H'
theorem ok_planned {f : Addr} {fd : FuncData} (F : Fun K "planned" "Race.planned" s_Race_planned f fd) (T : Txt K mg A) : FnOk P w K mg base CX0 2 f fd pm_Race_planned (spPlanned K A) := by
  refine F.ok sc_Race_planned (fun vs H Q E h => ?_) (fun cdv A' outer sh H vs Q E hr h => ?_)
  · obtain ⟨_, _, _, rfl, _⟩ := h
    rfl
  · obtain ⟨p, ds, z, rfl, ⟨dx, T1, ws, hp, hT, hw⟩, hsm, k⟩ := h
    refine ⟨_, pss_one (ps_ret (pe_callTy call_tuple_of (by rfl) T.n_tuple (by decide +kernel) (pa_cons (pe_lc (own := [("way", 1), ("told", 2)]) (g := gTup K 2 (gCons (gName 1) (gCons (gName 2) gNil))) (tt := tTest (tOp rNotN (tFld K (tVar 2) "begin") (tC .non))) (by rfl) sc_Race_planned.nd (pi_enSq rfl T.n_enumerate (pa_cons (pe_fld (pv 0) rfl) pa_nil))
      (blkOk_by (own := [("way", 1), ("told", 2)]) (N := nm_Race_planned) (sc := defScope s_Race_planned) (by decide +kernel)) (fun _ _ _ _ _ => pg_tup rfl (pgs_cons (pg_name (i := 1) sc_Race_planned.nd rfl (Or.inl rfl)) (pgs_cons (pg_name (i := 2) sc_Race_planned.nd rfl (Or.inl rfl)) (pgs_nil))))
      (fun _ _ _ _ _ => pts_one (pt_cmpR op_notN1 (pe_fld (pv 2) rfl) (pe_non) (nomark _))) (fun _ _ _ _ _ => pv 1)) pa_nil))), ?_⟩
    refine ⟨_, rfl, p, A.Race, dx, _, _, rfl, hp, T.Race.cl, T.r_ways, rfl, T1, rfl, .inr ⟨⟨_, hT⟩, fun D hD => ?_⟩⟩
    refine lc_it (walk_enT (xs := ws)) (fun i H' => Ext H H' ∧ H' D = some (.lst ((pl ds i).map V.int))) ⟨Ext.upd hD, upd_same⟩ (fun i H' _ pv => hT.ext pv.1) (fun i x H' H2 hi pv hy => ?_) (fun H' pv => ?_)
    · obtain ⟨e1, hl⟩ := pv
      obtain ⟨t, y, v, rfl, ht, rfl, hy1, hy2⟩ := hy
      cases hy1
      obtain ⟨d, hd⟩ : ∃ d, ds[i]? = some d := ⟨_, List.getElem?_eq_getElem (by rw [← hw.1]; exact hi)⟩
      have e2 := e1.upd' (o := .tup [.int (i : Nat), v]) ht
      obtain ⟨q, rfl, dq, Tq, xq, hq, _⟩ := (hw.ext e2).2 i v d hy2 hd
      have hl2 := Ext.upd (o := .tup [.int (i : Nat), .ref q]) ht _ _ hl
      refine ⟨t, _, rfl, SqT.of upd_same, rfl, _, _, rfl, _, _, rfl, rfl, rfl, ?_⟩
      refine ⟨_, rfl, q, A.Way, dq, _, _, rfl, hq, T.Way.cl, T.w_begin, rfl, rfl, _, rfl, ?_⟩
      rw [← has_at hd]
      cases h : has ds i with
      | true =>
        refine iteT ⟨_, rfl, _, hl2, Nat.lt_of_le_of_lt (show ((pl ds i).map V.int).length ≤ 1000 by rw [List.length_map]; exact Nat.le_trans (pl_len ds i) (by have := hw.1; omega)) (by decide), ext_mut e2 hD, ?_⟩
        rw [upd_same, pl_succ, h, List.map_append]
        rfl
      | false =>
        refine iteF ⟨e2, ?_⟩
        rw [hl2, pl_succ, h]
        simp
    · obtain ⟨e1, hl⟩ := pv
      rw [hw.1] at hl
      exact ⟨D, _, rfl, .inl ⟨SqL.of hl, fun t ht => k t _ (e1.upd' ht) upd_same⟩⟩
/-! ### the calls that are refused -/
theorem ok_called {f : Addr} {fd : FuncData} (F : Fun K "_law_called" "_law_called" s__law_called f fd) (T : Txt K mg A) (O_hurried : OwnM P w K mg base (L2.CX P w) A.Race "hurried" 7 pm_Race_hurried (spNoWay3 K A)) (O_can_win : OwnM P w K mg base (L2.CX P w) A.Race "can_win" 7 pm_Race_can_win (spNoWay3 K A))
    (O_last_win : OwnM P w K mg base (L2.CX P w) A.Race "last_win" 7 pm_Race_last_win (spNoWay K A)) (O_win_run : Own P w K mg base (L2.CX P w) "win_run" 9 pm_win_run (spNoWay3 K A)) (O_silent_after : Own P w K mg base (L2.CX P w) "silent_after" 9 pm_silent_after (spNoWay3 K A)) (O_win_paper : Own P w K mg base (L2.CX P w) "win_paper" 8 pm_win_paper (spNoWay3 K A)) :
    FnOk P w K mg base (L2.CX P w) 11 f fd pm__law_called (fun vs H Q E => ∃ k r v, vs = [.int k, r, v] ∧ spNoWay K A [r, v] H Q E) := by
  refine F.okX sc__law_called (fun vs H Q E h => ?_) (fun cdv A' outer s H vs Q E hr h => ?_)
  · obtain ⟨_, _, _, rfl, _⟩ := h
    rfl
  · obtain ⟨kk, r, v, rfl, h⟩ := h
    refine ⟨_, pss_one (ps_if (pt_cmpR op_eq (pv 0) (pe_int) (nomark _)) (pss_one (ps_expr (pe_ownMS O_hurried (pv 1) T.Race.cl (hr.mono (by decide)) (takes_of rfl rfl rfl rfl) (pa_cons (pv 2) (pa_cons (pe_int) pa_nil)))))
      (pss_one (ps_if (pt_cmpR op_eq (pv 0) (pe_int) (nomark _)) (pss_one (ps_expr (pe_ownMS O_can_win (pv 1) T.Race.cl (hr.mono (by decide)) (takes_of rfl rfl rfl rfl) (pa_cons (pv 2) (pa_cons (pe_int) pa_nil)))))
      (pss_one (ps_if (pt_cmpR op_eq (pv 0) (pe_int) (nomark _)) (pss_one (ps_expr (pe_ownMS O_last_win (pv 1) T.Race.cl (hr.mono (by decide)) (takes_of rfl rfl rfl rfl) (pa_cons (pv 2) pa_nil))))
      (pss_one (ps_if (pt_cmpR op_eq (pv 0) (pe_int) (nomark _)) (pss_one (ps_expr (pe_ownS O_win_run (hr.mono (by decide)) (takes_of rfl rfl rfl rfl) (pa_cons (pv 1) (pa_cons (pv 2) (pa_cons (pe_int) pa_nil))))))
      (pss_one (ps_if (pt_cmpR op_eq (pv 0) (pe_int) (nomark _)) (pss_one (ps_expr (pe_ownS O_silent_after (hr.mono (by decide)) (takes_of rfl rfl rfl rfl) (pa_cons (pv 1) (pa_cons (pv 2) (pa_cons (pe_int) pa_nil))))))
      (pss_one (ps_expr (pe_ownS O_win_paper (hr.mono (by decide)) (takes_of rfl rfl rfl rfl) (pa_cons (pv 1) (pa_cons (pv 2) (pa_cons (pe_int) pa_nil))))))))))))))), ?_⟩
    obtain ⟨p, T1, dx, z, v', d, ws, e, hp, hT, hd, hb, q⟩ := id h
    cases e
    refine ⟨_, rfl, rfl, _, rfl, ?_⟩
    rw [dvi]
    by_cases k0 : kk = 0
    · rw [decide_eq_true k0]
      exact iteT ⟨_, rfl, p, dx, _, rfl, hp, rfl, _, rfl, _, _, _, rfl, h⟩
    rw [decide_eq_false k0]
    refine iteF ⟨_, rfl, rfl, _, rfl, ?_⟩
    rw [dvi]
    by_cases k1 : kk = 1
    · rw [decide_eq_true k1]
      exact iteT ⟨_, rfl, p, dx, _, rfl, hp, rfl, _, rfl, _, _, _, rfl, h⟩
    rw [decide_eq_false k1]
    refine iteF ⟨_, rfl, rfl, _, rfl, ?_⟩
    rw [dvi]
    by_cases k2 : kk = 2
    · rw [decide_eq_true k2]
      exact iteT ⟨_, rfl, p, dx, _, rfl, hp, rfl, _, rfl, h⟩
    rw [decide_eq_false k2]
    refine iteF ⟨_, rfl, rfl, _, rfl, ?_⟩
    rw [dvi]
    by_cases k3 : kk = 3
    · rw [decide_eq_true k3]
      exact iteT ⟨_, rfl, _, rfl, _, _, _, rfl, h⟩
    rw [decide_eq_false k3]
    refine iteF ⟨_, rfl, rfl, _, rfl, ?_⟩
    rw [dvi]
    by_cases k4 : kk = 4
    · rw [decide_eq_true k4]
      exact iteT ⟨_, rfl, _, rfl, _, _, _, rfl, h⟩
    rw [decide_eq_false k4]
    exact iteF ⟨_, rfl, _, rfl, _, _, _, rfl, h⟩
end
end K16

set_option Elab.async false
set_option maxRecDepth 100000
set_option maxHeartbeats 4000000
namespace K16
open PySem PySem.Spec PyProof.Rows L2
section
variable {P : Program} {w : World} {K : PySem.W.Frag} {mg : Str → Option Value} {base : Heap} {A : Ad}
def spCalled (K : PySem.W.Frag) (A : Ad) : Sp := fun vs H Q E => ∃ k r v, vs = [.int k, r, v] ∧ spNoWay K A [r, v] H Q E
def tbRef (K : PySem.W.Frag) (A : Ad) (W : WX) : TS := fun D σ H => tCallS (spCalled K A) (WE W) (tCons (tVar 0) (tCons (tVar 1) (tCons (tVar 2) tNil))) σ H fun _ H' => D.nx σ H'
def tsRef (K : PySem.W.Frag) (A : Ad) (a : Addr) (cls : Value) (d : Option Addr) : TS := tIfS (tB (tCB (rIsED K A.NoWay a cls d) (tCons (tVar 4) (tCons (tC (.ref A.NoWay)) tNil)))) (tAsg (tTup (tCons (tXf a cls d A.NoWay "way" (tVar 4)) (tCons (tC (.bl true)) tNil))) (gName 3)) tNext
def spRefused (K : PySem.W.Frag) (A : Ad) : Sp := fun vs H Q _ => ∃ (k : Int) (p T dx : Addr) (z v : V) (d : PyData) (ws : List V), vs = [.int k, .ref p, v] ∧ H p = some (.ins A.Race dx (rF (.ref T) z)) ∧ SqT K H T ws ∧ Dp K H v d ∧ betD d 0 ((ws.length : Int) - 1) = false ∧
  ∀ t H', Ext H H' → H' t = some (.tup [v, .bl true]) → Q (.ref t) H'
theorem ok_refused {f : Addr} {fd : FuncData} (F : Fun K "_law_refused" "_law_refused" s__law_refused f fd) (T : Txt K mg A) (O_called : Own P w K mg base (L2.CX P w) "_law_called" 11 pm__law_called (spCalled K A)) : FnOk P w K mg base CX0 12 f fd pm__law_refused (spRefused K A) := by
  refine F.ok sc__law_refused (fun vs H Q E h => ?_) (fun cdv A' outer s H vs Q E hr h => ?_)
  · obtain ⟨_, _, _, _, _, _, _, _, rfl, _⟩ := h
    rfl
  · obtain ⟨kk, p, T1, dx, z, v, d, ws, rfl, hp, hT, hd, hb, q⟩ := h
    refine ⟨_, pss_cons (ps_set (i := 3) sc__law_refused.nd rfl (Or.inl rfl) (pe_tup (pa_cons (pe_non) (pa_cons (pe_bl) pa_nil)))) (pss_cons (ps_try_as (i := 4) (tb := tbRef K A) (ts := tsRef K A) (Wout := fun _ _ _ _ => False) rfl rfl sc__law_refused.nd rfl rfl ⟨rfl, by decide, Or.inl T.g_WholeError⟩ takes0
        (fun W pn xe tk _ => pss_one (ps_expr (by exact (pe_ownS O_called (hr.mono (by decide)) tk (pa_cons (pv 0) (pa_cons (pv 1) (pa_cons (pv 2) pa_nil)))))))
        (fun a oe cls d pn hz hf => pss_one (ps_if (pt_val (by exact (pe_callB (call_isEX T.NoWay.ec hz hf) (by rfl) T.n_isinstance (by decide +kernel) (pa_cons (pv 4) (pa_cons (pe_gcls T.NoWay.gC) pa_nil)))))
          (pss_one (ps_set (i := 3) sc__law_refused.nd rfl (Or.inl rfl) (pe_tup (pa_cons (by exact (pe_xf ⟨T.NoWay.ec.hg, T.NoWay.ec.hk, T.NoWay.ec.hs, T.NoWay.ec.hd⟩ T.NoWay.noA hz hf (pv 4))) (pa_cons (pe_bl) pa_nil))))) (pss_nil))))
      (pss_one (ps_ret (pv 3)))), ?_⟩
    refine ⟨by show 2 ≤ sizeLine; decide, fun t0 ht0 => ?_⟩
    have e0 := Ext.upd (o := .tup [.non, .bl false]) ht0
    refine ⟨_, rfl, _, rfl, _, rfl, kk, _, _, rfl, p, T1, dx, z, v, d, ws, rfl, e0 _ _ hp, hT.ext e0, dp_ext e0 _ _ hd, hb, fun e he => ?_⟩
    refine ⟨true, T.x_nw, fun _ ae hae => ?_, fun z => nomatch z⟩
    have e1 := e0.upd' (o := .xd [("way", v)]) he
    refine ⟨_, rfl, rfl, (fun dd h => ⟨_, by cases h; exact upd_same⟩), .ref A.NoWay, .ref A.NoWay, true, rfl, fun u h => h, T.x_nn, _, rfl, ?_⟩
    refine iteT ⟨_, rfl, rfl, rfl, e, _, v, rfl, upd_same, rfl, by show 2 ≤ sizeLine; decide, fun t ht => ?_⟩
    exact ⟨_, rfl, q t _ (e1.upd' ht) upd_same⟩
end
end K16

set_option Elab.async false
set_option maxRecDepth 100000
set_option maxHeartbeats 4000000
namespace K16
open PySem PySem.Spec PyProof.Rows L2
section
variable {P : Program} {w : World} {K : PySem.W.Frag} {mg : Str → Option Value} {base : Heap} {A : Ad}
def spWaysRefused (K : PySem.W.Frag) (A : Ad) : Sp := fun vs H Q _ => ∃ (p T dx : Addr) (z : V) (ws : List V), vs = [.ref p, .int (ws.length : Int)] ∧ H p = some (.ins A.Race dx (rF (.ref T) z)) ∧ SqT K H T ws ∧ ∀ H', Ext H H' → Q (.bl true) H'
theorem ok_waysRefused {f : Addr} {fd : FuncData} (F : Fun K "_law_ways_refused" "_law_ways_refused" s__law_ways_refused f fd) (T : Txt K mg A) (O__law_refused : Own P w K mg base CX0 "_law_refused" 12 pm__law_refused (spRefused K A)) : FnOk P w K mg base CX0 13 f fd pm__law_ways_refused (spWaysRefused K A) := by
  refine F.ok sc__law_ways_refused (fun vs H Q E h => ?_) (fun cdv A' outer s H vs Q E hr h => ?_)
  · obtain ⟨_, _, _, _, _, rfl, _⟩ := h
    rfl
  · obtain ⟨p, T1, dx, z, ws, rfl, hp, hT, k⟩ := h
    refine ⟨_, pss_cons (ps_for PassesOwn.never rfl (pi_tup (pe_tup (pa_cons (pe_un un_neg (pe_int)) (pa_cons (pv 1) (pa_cons (pe_op op_add (pv 1) (pe_int)) (pa_cons (pe_bl) (pa_cons (pe_bl) (pa_cons (pe_non) (pa_cons (pe_str) (pa_cons (pe_tup (pa_cons (pe_int) pa_nil)) (pa_cons (pe_lst (pa_cons (pe_int) pa_nil)) pa_nil))))))))))) (pg_name (i := 2) sc__law_ways_refused.nd rfl (Or.inl rfl)) (pss_one (ps_for PassesOwn.never rfl (pi_range1 rfl T.n_range (pa_cons (pe_int) pa_nil)) (pg_name (i := 3) sc__law_ways_refused.nd rfl (Or.inl rfl)) (pss_cons (ps_asg (pe_own O__law_refused (hr.mono (by decide)) pass0 (pa_cons (pv 3) (pa_cons (pv 0) (pa_cons (pv 2) pa_nil)))) (pg_tup rfl (pgs_cons (pg_name (i := 4) sc__law_ways_refused.nd rfl (Or.inl rfl)) (pgs_cons (pg_name (i := 5) sc__law_ways_refused.nd rfl (Or.inl rfl)) (pgs_nil)))))
      (pss_one (ps_if (PW.pt (pw_or (pt_not (pt_truth (pv 5) (by intro _; rfl))) (pw_or (pt_cmpR (op_neD hr.units) (pv 4) (pv 2) (nomark _)) (pw_or1 (pt_cmpR op_ne (pe_callB call_isi (by rfl) T.n_isinstance (by decide +kernel) (pa_cons (pv 4) (pa_cons (pe_bltn (v := .ty "bool") (by rfl) T.n_bool (by decide +kernel) rfl) pa_nil))) (pe_callB call_isi (by rfl) T.n_isinstance (by decide +kernel) (pa_cons (pv 2) (pa_cons (pe_bltn (v := .ty "bool") (by rfl) T.n_bool (by decide +kernel) rfl) pa_nil))) (nomark _)))))) (pss_one (ps_ret (pe_bl))) (pss_nil)))))))
      (pss_one (ps_ret (pe_bl))), ?_⟩
    refine ⟨_, rfl, _, rfl, _, rfl, _, _, rfl, rfl, by show 1 ≤ sizeLine; decide, fun ta hta => ⟨by show 1 ≤ sizeLine; decide, fun tb htb => ⟨by show 9 ≤ sizeLine; decide, fun t ht => ?_⟩⟩⟩
    have ea := Ext.upd (o := .tup [.int 0]) hta
    have eb := Ext.upd (o := .lst [.int 0]) htb
    have et := Ext.upd (o := .tup [.int (-1), .int (ws.length : Int), .int ((ws.length : Int) + 9), .bl true, .bl false, .non, .str "0", .ref ta, .ref tb]) ht
    have e0 := (ea.trans eb).trans et
    have ht0 : upd (upd (upd H ta (.tup [.int 0])) tb (.lst [.int 0])) t (.tup [.int (-1), .int (ws.length : Int), .int ((ws.length : Int) + 9), .bl true, .bl false, .non, .str "0", .ref ta, .ref tb]) t = some (.tup [.int (-1), .int (ws.length : Int), .int ((ws.length : Int) + 9), .bl true, .bl false, .non, .str "0", .ref ta, .ref tb]) := upd_same
    have hta0 := et _ _ (eb _ _ (upd_same (H := H) (a := ta) (o := .tup [.int 0])))
    have htb0 := et _ _ (upd_same (H := upd H ta (.tup [.int 0])) (a := tb) (o := .lst [.int 0]))
    generalize upd (upd (upd H ta (.tup [.int 0])) tb (.lst [.int 0])) t (.tup [.int (-1), .int (ws.length : Int), .int ((ws.length : Int) + 9), .bl true, .bl false, .non, .str "0", .ref ta, .ref tb]) = H0 at e0 ht0 hta0 htb0 ⊢
    have vals : ∀ (i : Nat) (x : V), [V.int (-1), .int (ws.length : Int), .int ((ws.length : Int) + 9), .bl true, .bl false, .non, .str "0", .ref ta, .ref tb][i]? = some x →
        ∃ d, (∀ H', Ext H0 H' → Dp K H' x d) ∧ betD d 0 ((ws.length : Int) - 1) = false ∧ PyData.eqv d d = true ∧ SeqAt.shaped d = true := fun i x h => by
      match i, h with
      | 0, h => cases h; exact ⟨.int (-1), fun _ _ => .int _, by rw [bet_int, decide_eq_false (by decide)]; rfl, rfl, rfl⟩
      | 1, h => cases h; exact ⟨.int (ws.length : Int), fun _ _ => .int _, by rw [bet_int, decide_eq_false (show ¬ ((ws.length : Int) ≤ (ws.length : Int) - 1) by omega), Bool.and_false], by rw [show PyData.eqv (.int (ws.length : Int)) (.int (ws.length : Int)) = ((ws.length : Int) == (ws.length : Int)) by unfold PyData.eqv; rfl]; exact beq_self_eq_true _, rfl⟩
      | 2, h => cases h; exact ⟨.int ((ws.length : Int) + 9), fun _ _ => .int _, by rw [bet_int, decide_eq_false (show ¬ ((ws.length : Int) + 9 ≤ (ws.length : Int) - 1) by omega), Bool.and_false], by rw [show PyData.eqv (.int ((ws.length : Int) + 9)) (.int ((ws.length : Int) + 9)) = (((ws.length : Int) + 9) == ((ws.length : Int) + 9)) by unfold PyData.eqv; rfl]; exact beq_self_eq_true _, rfl⟩
      | 3, h => cases h; exact ⟨.bool true, fun _ _ => .bl _, rfl, rfl, rfl⟩
      | 4, h => cases h; exact ⟨.bool false, fun _ _ => .bl _, rfl, rfl, rfl⟩
      | 5, h => cases h; exact ⟨.none, fun _ _ => .non, rfl, rfl, rfl⟩
      | 6, h => cases h; exact ⟨.str "0", fun _ _ => .str _, rfl, by decide +kernel, by decide +kernel⟩
      | 7, h => cases h; exact ⟨.tuple [.int 0], fun H' e => .tup (SqT.of (e _ _ hta0)) (.cons (.int _) .nil), rfl, rfl, rfl⟩
      | 8, h => cases h; exact ⟨.list [.int 0], fun H' e => .lst (SqL.of (e _ _ htb0)) (.cons (.int _) .nil), rfl, rfl, rfl⟩
      | n + 9, h => cases h
    refine ⟨t, rfl, ⟨_, SqT.of ht0⟩, ?_⟩
    refine for_it (walk_tup (xs := [V.int (-1), .int (ws.length : Int), .int ((ws.length : Int) + 9), .bl true, .bl false, .non, .str "0", .ref ta, .ref tb])) (fun i σ' H' => Ext H0 H' ∧ ∃ o2 o3 o4 o5, σ' = [some (.ref p), some (.int (ws.length : Int)), o2, o3, o4, o5])
      ⟨Ext.rfl', _, _, _, _, rfl⟩ (fun i σ' H' _ pv => SqT.of (pv.1 _ _ ht0)) (fun i x σ' H' H2 hi pv hy => ?_) (fun σ' H' pv => ?_)
    · obtain ⟨e1, o2, o3, o4, o5, rfl⟩ := pv
      obtain ⟨rfl, hx⟩ := hy
      obtain ⟨d, hd, hb, heq, hsh⟩ := vals i x hx
      refine ⟨6, rfl, by decide, by decide, ?_⟩
      refine for_it (walk_range (lo := 0) (n := (6 : Int).toNat)) (fun i σ' H' => Ext H0 H' ∧ ∃ o3 o4 o5, σ' = [some (.ref p), some (.int (ws.length : Int)), some x, o3, o4, o5]) ⟨e1, _, _, _, rfl⟩ (fun _ _ _ _ _ => trivial) (fun j y σ' H3 H4 hj pv hy => ?_) (fun σ' H3 pv => ?_)
      · obtain ⟨e3, o3, o4, o5, rfl⟩ := pv
        obtain ⟨rfl, rfl⟩ := hy
        have e03 := e0.trans e3
        refine ⟨_, rfl, _, rfl, _, rfl, _, p, T1, dx, z, x, d, ws, rfl, e03 _ _ hp, hT.ext e03, hd _ e3, hb, fun t5 H5 e5 ht5 => ?_⟩
        refine ⟨t5, _, rfl, SqT.of ht5, rfl, _, _, rfl, _, _, rfl, rfl, ?_⟩
        have e05 := e3.trans e5
        refine ⟨_, rfl, true, rfl, iteF ?_⟩
        refine ⟨_, rfl, _, rfl, d, d, hd _ e05, hd _ e05, hsh, hsh, _, rfl, ?_⟩
        rw [heq]
        refine iteF ?_
        refine ⟨_, rfl, x, .ty "bool", .type (tnD d), .type "bool", isBoolD d, rfl, .ty _, dp_ty (hd _ e05), kd_bool, _, rfl, x, .ty "bool", .type (tnD d), .type "bool", isBoolD d, rfl, .ty _, dp_ty (hd _ e05), kd_bool, rfl, _, rfl, ?_⟩
        rw [decide_eq_true rfl]
        exact iteF ⟨e05, _, _, _, rfl⟩
      · obtain ⟨e3, o3, o4, o5, rfl⟩ := pv
        exact ⟨e3, _, _, _, _, rfl⟩
    · obtain ⟨e1, o2, o3, o4, o5, rfl⟩ := pv
      exact k _ (e0.trans e1)
end
end K16

set_option Elab.async false
set_option maxRecDepth 100000
set_option maxHeartbeats 4000000
namespace K16
open PySem PySem.Spec PyProof.Rows L2 L2H
section
variable {P : Program} {w : World} {K : PySem.W.Frag} {mg : Str → Option Value} {base : Heap} {A : Ad}
/-- what may be handed in as the number of silent ways -/
theorem silents {n : Int} (h0 : 0 ≤ n) (h9 : n < 9) : ∃ vz, atI [V.int 0, .int 1, .int 2, .int 3, .int 4, .int (-1), .bl true, .non, .str "1"] n = some vz ∧ Fl vz ∧ (isBoolD (pd vz) || !([PyData.int 0, .int 1, .int 2, .int 3].any fun z => PyData.eqv z (pd vz))) = !betD (pd vz) 0 3 := by
  have hd : n = 0 ∨ n = 1 ∨ n = 2 ∨ n = 3 ∨ n = 4 ∨ n = 5 ∨ n = 6 ∨ n = 7 ∨ n = 8 := by omega
  rcases hd with rfl | rfl | rfl | rfl | rfl | rfl | rfl | rfl | rfl
  · exact ⟨_, rfl, trivial, by decide +kernel⟩
  · exact ⟨_, rfl, trivial, by decide +kernel⟩
  · exact ⟨_, rfl, trivial, by decide +kernel⟩
  · exact ⟨_, rfl, trivial, by decide +kernel⟩
  · exact ⟨_, rfl, trivial, by decide +kernel⟩
  · exact ⟨_, rfl, trivial, by decide +kernel⟩
  · exact ⟨_, rfl, trivial, by decide +kernel⟩
  · exact ⟨_, rfl, trivial, by decide +kernel⟩
  · exact ⟨_, rfl, (show PySem.PyData.canLay0 (.str "1") = true by decide +kernel), by decide +kernel⟩
/-- what the constructor asks of its first argument -/
def Giv (K : PySem.W.Frag) (A : Ad) (H : Hp) (v : V) (t : Value) (k : Bool) (xs : List V) (g : V → Bool) : Prop := (∀ H', Ext H H' → TyX K H' v t) ∧ PySem.W.kitAny K t [.type "list", .type "tuple"] = some k ∧ (k = true → ∃ p, v = .ref p ∧ (SqL K H p xs ∨ SqT K H p xs)) ∧ xs.length ≤ 1000 ∧
  (∀ x ∈ xs, ∃ tx, (∀ H', Ext H H' → TyX K H' x tx) ∧ PySem.W.kitOne K tx (.ref A.Way) = some (g x))
def okG (k : Bool) (xs : List V) (g : V → Bool) : Bool := k && (decide ((1 : Int) ≤ (xs.length : Int)) && decide ((xs.length : Int) ≤ 4)) && xs.all g
theorem giv_dp {H : Hp} {v : V} {d : PyData} (h : Dp K H v d) (hs : isSeqD d = false) : ∃ t, Giv K A H v t false [] (fun _ => true) := ⟨_, fun H' e => dp_ty (dp_ext e _ _ h), by rw [kd_seq, hs], (fun z => nomatch z), Nat.zero_le _, fun x h => nomatch h⟩
theorem giv_nil {H : Hp} {a : Addr} (h : H a = some (.lst [])) : ∃ t, Giv K A H (.ref a) t true [] (fun _ => true) := ⟨.type "list", fun H' e => .base (.lst (e _ _ h)), by
    have z := kd_seq (K := K) (d := .list [])
    exact z, fun _ => ⟨a, rfl, .inl (SqL.of h)⟩, Nat.zero_le _, fun x h => nomatch h⟩
theorem giv_lst {H : Hp} {a : Addr} {xs : List V} {g : V → Bool} (h : H a = some (.lst xs)) (hz : xs.length ≤ 1000) (hx : ∀ x ∈ xs, ∃ tx, (∀ H', Ext H H' → TyX K H' x tx) ∧ PySem.W.kitOne K tx (.ref A.Way) = some (g x)) : ∃ t, Giv K A H (.ref a) t true xs g := ⟨.type "list", fun H' e => .base (.lst (e _ _ h)), by
    have z := kd_seq (K := K) (d := .list [])
    exact z, fun _ => ⟨a, rfl, .inl (SqL.of h)⟩, hz, hx⟩
theorem kit_ways (T : Txt K mg A) : PySem.W.kitAny K (.ref A.Way) [.type "list", .type "tuple"] = some false := by
  unfold PySem.W.kitAny
  rw [T.Way.kLst]
  unfold PySem.W.kitAny
  rw [T.Way.kTup]
  rfl
theorem giv_way {H : Hp} {q : Addr} {d : Wd} (T : Txt K mg A) (h : WayD K A H q d) : ∃ t, Giv K A H (.ref q) t false [] (fun _ => true) := by
  obtain ⟨dx, fs, e0⟩ := wd_ins h
  exact ⟨.ref A.Way, fun H' e => T.Way.tyOf (e _ _ e0), kit_ways T, (fun z => nomatch z), Nat.zero_le _, fun x h => nomatch h⟩
theorem ways_kit {H : Hp} {ps : List V} {ds : List Wd} (T : Txt K mg A) (h : Ways K A H ps ds) : ∀ x ∈ ps, ∃ q dx fs, x = .ref q ∧ H q = some (.ins A.Way dx fs) := fun x hx => by
  obtain ⟨i, hi⟩ := List.mem_iff_getElem?.mp hx
  have hl : i < ds.length := by rw [← h.1]; exact (List.getElem?_eq_some_iff.mp hi).1
  obtain ⟨q, e, w⟩ := h.2 i x _ hi (List.getElem?_eq_getElem hl)
  obtain ⟨dx, fs, e0⟩ := wd_ins w
  exact ⟨q, dx, fs, e, e0⟩
/-- a list of ways, with one place put otherwise or not -/
theorem ways_set {H : Hp} {ps xs : List V} {ds : List Wd} {v : V} {tv : Value} (T : Txt K mg A) (h : Ways K A H ps ds) (hs : ∀ x ∈ xs, x ∈ ps ∨ x = v) (hv : v ∉ ps) (ht : ∀ H', Ext H H' → TyX K H' v tv) (hk : PySem.W.kitOne K tv (.ref A.Way) = some false) :
    ∀ x ∈ xs, ∃ tx, (∀ H', Ext H H' → TyX K H' x tx) ∧ PySem.W.kitOne K tx (.ref A.Way) = some (decide (x ∈ ps)) := fun x hx => by
  by_cases hm : x ∈ ps
  · obtain ⟨q, dx, fs, rfl, e0⟩ := ways_kit T h x hm
    rw [decide_eq_true hm]
    exact ⟨.ref A.Way, fun H' e => T.Way.tyOf (e _ _ e0), T.Way.me⟩
  · rcases hs x hx with z | rfl
    · exact absurd z hm
    · rw [decide_eq_false hm]
      exact ⟨tv, ht, hk⟩
theorem ways_id {H : Hp} {ps : List V} {ds : List Wd} (T : Txt K mg A) (h : Ways K A H ps ds) : ∀ x ∈ ps, ∃ tx, (∀ H', Ext H H' → TyX K H' x tx) ∧ PySem.W.kitOne K tx (.ref A.Way) = some (decide (x ∈ ps)) := fun x hm => by
  obtain ⟨q, dx, fs, rfl, e0⟩ := ways_kit T h x hm
  rw [decide_eq_true hm]
  exact ⟨.ref A.Way, fun H' e => T.Way.tyOf (e _ _ e0), T.Way.me⟩
theorem all_mem {ps : List V} : (ps.all fun x => decide (x ∈ ps)) = true := by
  rw [List.all_eq_true]
  intro x hx
  exact decide_eq_true hx
theorem set_bad {ps : List V} {j : Nat} {v : V} (hj : j < ps.length) (hv : v ∉ ps) : ((ps.set j v).all fun x => decide (x ∈ ps)) = false := by
  rw [List.all_eq_false]
  exact ⟨v, List.mem_set hj v, by simp [hv]⟩
theorem kit_ty_way (T : Txt K mg A) {n : String} (h : (fastFind? n).isSome = true) : PySem.W.kitOne K (.type n) (.ref A.Way) = some false := T.Way.kitB (sub_ty_ref h) rfl
def tbLaw (A : Ad) (K : PySem.W.Frag) (W : WX) : TS := tAsg (tMakeS A.Race (spRaceInit K A) [] (WE W) (tCons (tVar 4) (tCons (tVar 3) tNil))) (gName 8)
def tsLaw (K : PySem.W.Frag) (A : Ad) (a : Addr) (cls : Value) (d : Option Addr) : TS := tSeq (tAsg (tC (.str "strange")) (gName 7)) (tIfS (tB (tCB (rIsED K A.BadPart a cls d) (tCons (tVar 9) (tCons (tC (.ref A.BadPart)) tNil)))) (tAsg (tXf a cls d A.BadPart "part" (tVar 9)) (gName 7)) tNext)
def spLaw (K : PySem.W.Frag) : Sp := fun vs H Q _ => ∃ (a : Addr) (ns : List Int), vs = [.ref a] ∧ SqL K H a (ns.map V.int) ∧ ns.length ≤ 63 ∧ ∀ H', Q (.bl true) H'
theorem Tups.mutL {b s M : Addr} {H H' : Hp} {ys qs : List V} {ds : List Wd} (hM : H M = some (.lst ys)) (e : ∀ x o, x ≠ M → H x = some o → H' x = some o) (h : Tups b s H qs ds) : Tups b s H' qs ds := ⟨h.1, fun i x d h1 h2 => by
  obtain ⟨g, q, e1, e2, e3, e4⟩ := h.2 i x d h1 h2
  exact ⟨g, q, e1, e _ _ (fun z => by rw [z, hM] at e2; cases e2) e2, e3, e4⟩⟩
theorem pl_eqv (ns : List Int) : PyData.eqv (.tuple ((ns.map V.int).map pd)) (.tuple ((ns.map V.int).map pd)) = true := by
  show PyData.eqvAll _ _ = true
  exact eqv_same fun v hv => by
    obtain ⟨n, _, rfl⟩ := List.mem_map.mp hv
    exact trivial
theorem Giv.ext {H H' : Hp} {v : V} {t : Value} {k : Bool} {xs : List V} {g : V → Bool} (h : Giv K A H v t k xs g) (e : Ext H H') : Giv K A H' v t k xs g := by
  obtain ⟨h1, h2, h3, h4, h5⟩ := h
  refine ⟨fun H2 e2 => h1 H2 (e.trans e2), h2, fun z => ?_, h4, fun x hx => ?_⟩
  · obtain ⟨p, r, q⟩ := h3 z
    exact ⟨p, r, q.imp (fun h => h.ext e) (fun h => h.ext e)⟩
  · obtain ⟨tx, t1, t2⟩ := h5 x hx
    exact ⟨tx, fun H2 e2 => t1 H2 (e.trans e2), t2⟩
theorem pd_int {v : V} {n : Int} (h : pd v = .int n) : v = .int n := by
  cases v <;> first | (cases h; rfl) | cases h
theorem cut1 {xs : List V} (h : 1 ≤ xs.length) : cutV xs (some 1) Option.none = xs.drop 1 := by
  have h1 : HT.sIx xs.length 0 (some 1) = 1 := by
    unfold HT.sIx
    simp
    omega
  have h2 : HT.sIx xs.length xs.length Option.none = xs.length := rfl
  unfold cutV
  rw [h1, h2, List.take_of_length_le (by rw [List.length_drop]; omega)]
/-- a race is made of good parts -/
theorem mk_race {H1 : Hp} {p : Addr} {zi : Int} {xs : List V} {ds : List Wd} {R : VK} {E : XK} {x0 dx : Addr} (T : Txt K mg A) (hx0 : H1 x0 = none) (hdx : H1 dx = none) (hne : dx ≠ x0) (hv : H1 p = some (.lst xs) ∨ H1 p = some (.tup xs)) (hw : Ways K A H1 xs ds) (h1 : 1 ≤ ds.length) (h4 : ds.length ≤ 4) (hz : 0 ≤ zi ∧ zi ≤ 3)
    (q : ∀ H', Ext H1 H' → RaceD K A H' x0 ds zi → R .non H') : spRaceInit K A (.ref x0 :: [.ref p, .int zi]) (upd (upd H1 dx (.own x0)) x0 (.ins A.Race dx [])) R E := by
  have e0 := (Ext.upd (o := .own x0) hdx).upd' (o := .ins A.Race dx []) (by rw [upd_ne hne.symm]; exact hx0)
  have hl : xs.length = ds.length := hw.1
  have hg : ∃ t, Giv K A H1 (.ref p) t true xs (fun x => decide (x ∈ xs)) := by
    rcases hv with hv | hv
    · exact giv_lst hv (by omega) (ways_id T hw)
    · exact ⟨.type "tuple", fun H' e => .base (.tup (e _ _ hv)), (by
        have z := kd_seq (K := K) (d := .tuple [])
        exact z), fun _ => ⟨p, rfl, .inr (SqT.of hv)⟩, by omega, ways_id T hw⟩
  obtain ⟨t, hg⟩ := hg
  obtain ⟨g1, g2, g3, g4, g5⟩ := hg.ext e0
  have hok : (true && (decide ((1 : Int) ≤ (xs.length : Int)) && decide ((xs.length : Int) ≤ 4)) && (xs.all fun x => decide (x ∈ xs))) = true := by
    rw [all_mem, decide_eq_true (show (1 : Int) ≤ (xs.length : Int) by omega), decide_eq_true (show (xs.length : Int) ≤ 4 by omega)]
    rfl
  have hb : betD (.int zi) 0 3 = true := by
    rw [bet_int, decide_eq_true hz.1, decide_eq_true hz.2]
    rfl
  refine ⟨x0, dx, _, _, .int zi, t, true, xs, _, rfl, upd_same, .int _, g1, g2, g3, g4, g5, fun h => (by rw [hok] at h; cases h), fun _ h => (by rw [hb] at h; cases h), fun _ _ H' hT hB => ?_⟩
  have e1 : Ext H1 H' := fun a o h => hB a o (ne_of_none h hx0) (e0 a o h)
  obtain ⟨T1, r1, r2⟩ := hT
  exact q H' e1 ⟨dx, T1, xs, r1, r2, hw.ext e1⟩
end
end K16

set_option Elab.async false
set_option maxRecDepth 100000
set_option maxHeartbeats 4000000
namespace K16
open PySem PySem.Spec PyProof.Rows L2 L2H
section
variable {P : Program} {w : World} {K : PySem.W.Frag} {mg : Str → Option Value} {base : Heap} {A : Ad}
theorem nfTup {C : Addr} : PySem.W.notFirst K C (.type "tuple") = true := by
  show (Value.type "tuple" == Value.ref C || PySem.W.subIn K (.type "tuple") (.ref C) == some false) = true
  rw [sub_ty_ref (by decide +kernel)]
  exact Bool.or_eq_true_iff.mpr (.inr (by decide))
theorem ok_law {f : Addr} {fd : FuncData} (F : Fun K "law" "law" s_law f fd) (T : Txt K mg A) (O__law_draw : Own P w K mg base CX0 "_law_draw" 1 pm__law_draw spDraw) (O__law_ways : Own P w K mg base CX0 "_law_ways" 3 pm__law_ways spWays) (O__law_made : Own P w K mg base CX0 "_law_made" 8 pm__law_made (spMade K A))
    (O_Way3 : OwnCD P w K mg base (L2.CX P w) "Way" A.Way 5 pm_Way_init (spWayInit K A) [.ref A.T0]) (O_Race : OwnC P w K mg base (L2.CX P w) "Race" A.Race 6 pm_Race_init (spRaceInit K A)) (O_Way_eq : OwnM P w K mg base CX0 A.Way "__eq__" 1 pm_Way_eq (spWayEq K A)) (O_Race_eq : OwnM P w K mg base CX0 A.Race "__eq__" 4 pm_Race_eq (spRaceEq K A))
    (O_Race_planned : OwnM P w K mg base CX0 A.Race "planned" 2 pm_Race_planned (spPlanned K A)) (O__law_ways_refused : Own P w K mg base CX0 "_law_ways_refused" 13 pm__law_ways_refused (spWaysRefused K A)) : FnOk P w K mg base CX0 14 f fd pm_law (spLaw K) := by
  refine F.ok sc_law (fun vs H Q E h => ?_) (fun cdv A' outer sh H vs Q E hr h => ?_)
  · obtain ⟨_, _, rfl, _⟩ := h
    rfl
  · obtain ⟨a, ns, rfl, hS, hlen, k⟩ := h
    have hIxT : ∀ s1 H1 sc ce fp, IxR ((cxOf CX0 P w K mg base nm_law "law" (defScope s_law) f cdv A' outer sh H E).nox.blk s1 H1 sc ce fp) (rIxT K) := fun s1 H1 sc ce fp => ix_tup (X := (cxOf CX0 P w K mg base nm_law "law" (defScope s_law) f cdv A' outer sh H E).nox.blk s1 H1 sc ce fp)
    have hIxL : ∀ s1 H1 sc ce fp, IxR ((cxOf CX0 P w K mg base nm_law "law" (defScope s_law) f cdv A' outer sh H E).nox.blk s1 H1 sc ce fp) (rIxL K) := fun s1 H1 sc ce fp => ix_list (X := (cxOf CX0 P w K mg base nm_law "law" (defScope s_law) f cdv A' outer sh H E).nox.blk s1 H1 sc ce fp)
    refine ⟨_, pss_cons (ps_set (i := 1) sc_law.nd rfl (Or.inl rfl) (pe_lst (pa_cons (pe_callTy call_list_of (by rfl) T.n_list (by decide +kernel) (pa_cons (pv 0) pa_nil)) (pa_cons (pe_int) pa_nil))))
      (pss_cons (ps_set (i := 2) sc_law.nd rfl (Or.inr rfl) (pe_own O__law_ways (hr.mono (by decide)) pass0 (pa_cons (pv 1) (pa_cons (pe_int) pa_nil))))
      (pss_cons (ps_set (i := 3) sc_law.nd rfl (Or.inl rfl) (pe_ix ix_tup (pe_tup (pa_cons (pe_int) (pa_cons (pe_int) (pa_cons (pe_int) (pa_cons (pe_int) (pa_cons (pe_int) (pa_cons (pe_un un_neg (pe_int)) (pa_cons (pe_bl) (pa_cons (pe_non) (pa_cons (pe_str) pa_nil)))))))))) (pe_own O__law_draw (hr.mono (by decide)) pass0 (pa_cons (pv 1) (pa_cons (pe_int) pa_nil))) (fun _ _ => rfl)))
      (pss_cons (ps_set (i := 4) sc_law.nd rfl (Or.inl rfl) (pe_own O__law_made (hr.mono (by decide)) pass0 (pa_cons (pv 2) pa_nil)))
      (pss_cons (ps_set (i := 5) sc_law.nd rfl (Or.inl rfl) (pe_own O__law_draw (hr.mono (by decide)) pass0 (pa_cons (pv 1) (pa_cons (pe_int) pa_nil))))
      (Evl.pss_cut (ps_if (pt_cmpR op_eq (pv 5) (pe_int) (nomark _)) (pss_one (ps_asg (pe_ix ix_tup (pe_tup (pa_cons (pe_non) (pa_cons (pe_ix ix_list (pv 2) (pe_int) (fun _ _ => rfl)) (pa_cons (pe_str) pa_nil)))) (pe_own O__law_draw (hr.mono (by decide)) pass0 (pa_cons (pv 1) (pa_cons (pe_int) pa_nil))) (fun _ _ => rfl)) (pg_sub (pv 4) (pe_own O__law_draw (hr.mono (by decide)) pass0 (pa_cons (pv 1) (pa_cons (pe_callB call_len_seq (by rfl) T.n_len (by decide +kernel) (pa_cons (pv 4) pa_nil)) pa_nil))) set_list))) (pss_nil))
      (Evl.pss_cut (ps_if (pt_cmpR op_eq (pv 5) (pe_int) (nomark _)) (pss_one (ps_set (i := 4) sc_law.nd rfl (Or.inl rfl) (pe_ix ix_list (pe_lst (pa_cons (pe_non) (pa_cons (pe_lst (pa_nil)) (pa_cons (pe_ix ix_list (pv 4) (pe_int) (fun _ _ => rfl)) (pa_cons (pe_int) pa_nil))))) (pe_own O__law_draw (hr.mono (by decide)) pass0 (pa_cons (pv 1) (pa_cons (pe_int) pa_nil))) (fun _ _ => rfl)))) (pss_nil))
      (pss_cons (ps_set (i := 6) sc_law.nd rfl (Or.inl rfl) (pe_non))
      (Evl.pss_cut (ps_if (PW.pt (pw_or (pt_val (pe_callB call_isi (by rfl) T.n_isinstance (by decide +kernel) (pa_cons (pv 3) (pa_cons (pe_bltn (v := .ty "bool") (by rfl) T.n_bool (by decide +kernel) rfl) pa_nil)))) (pw_or1 (pt_cmpR (op_notInD hr.in1.units) (pv 3) (pe_lst (pa_cons (pe_int) (pa_cons (pe_int) (pa_cons (pe_int) (pa_cons (pe_int) pa_nil))))) (by with_unfolding_all rfl))))) (pss_one (ps_set (i := 6) sc_law.nd rfl (Or.inl rfl) (pe_str))) (pss_nil))
      (Evl.pss_cut (ps_if (PW.pt (pw_or (pt_cmpR op_gt (pv 5) (pe_int) (nomark _)) (pw_or1 (pt_cmpR op_gt (pe_callB call_len_seq (by rfl) T.n_len (by decide +kernel) (pa_cons (pv 2) pa_nil)) (pe_int) (nomark _))))) (pss_one (ps_set (i := 6) sc_law.nd rfl (Or.inl rfl) (pe_str))) (pss_nil))
      (pss_cons (ps_set (i := 7) sc_law.nd rfl (Or.inl rfl) (pe_non))
      (pss_cons (ps_try_as (i := 9) (tb := tbLaw A K) (ts := tsLaw K A) (Wout := fun _ _ _ _ => False) rfl rfl sc_law.nd rfl rfl ⟨rfl, by decide, Or.inl T.g_WholeError⟩ takes0
        (fun W pn xe tk _ => pss_one (ps_set (i := 8) sc_law.nd rfl (Or.inl rfl) (by exact (pe_newS O_Race (hr.mono (by decide)) tk (pa_cons (pv 4) (pa_cons (pv 3) pa_nil))))))
        (fun a oe cls d pn hz hf => pss_cons (ps_set (i := 7) sc_law.nd rfl (Or.inl rfl) pe_str) (pss_one (ps_if (pt_val (by exact (pe_callB (call_isEX T.BadPart.ec hz hf) (by rfl) T.n_isinstance (by decide +kernel) (pa_cons (pv 9) (pa_cons (pe_gcls T.BadPart.gC) pa_nil)))))
          (pss_one (ps_set (i := 7) sc_law.nd rfl (Or.inl rfl) (by exact (pe_xf ⟨T.BadPart.ec.hg, T.BadPart.ec.hk, T.BadPart.ec.hs, T.BadPart.ec.hd⟩ T.BadPart.noA hz hf (pv 9))))) (pss_nil)))))
      (pss_cons (ps_if (PW.pt (pw_or (pt_cmpR op_notN (pv 7) (pe_non) (nomark _)) (pw_or1 (pt_cmpR op_notN (pv 6) (pe_non) (nomark _))))) (pss_one (ps_ret (pe_cmpR op_eq (pv 7) (pv 6) (nomark _)))) (pss_nil))
      (pss_cons (ps_expr (pe_bm PySem.F.plainAttrs_list PySem.F.slot_list_append PySem.F.type_list_append mt_append (pv 4) (pa_cons (pe_newD O_Way3 (hr.mono (by decide)) passL (pa_cons (pe_int) (pa_cons (pe_int) (pa_cons (pe_int) pa_nil)))) pa_nil)))
      (pss_cons (ps_set (i := 10) sc_law.nd rfl (Or.inl rfl) (pe_own O__law_made (hr.mono (by decide)) pass0 (pa_cons (pv 2) pa_nil)))
      (pss_cons (ps_if (PW.pt (pw_or (pt_cmpR (op_neB (rcNB_tup mon_way (eqB_way O_Way_eq)) (hr.mono (by decide))) (pe_fld (pv 8) rfl) (pe_callTy call_tuple_of (by rfl) T.n_tuple (by decide +kernel) (pa_cons (pv 10) pa_nil)) (nomark _)) (pw_or1 (pt_cmpR op_ne (pe_fld (pv 8) rfl) (pv 3) (nomark _))))) (pss_one (ps_ret (pe_bl))) (pss_nil))
      (pss_cons (ps_if (pt_cmpR (op_neD hr.units) (pe_ownM0 O_Race_planned (pv 8) T.Race.cl (hr.mono (by decide)) pass0) (pe_callTy call_tuple_of (by rfl) T.n_tuple (by decide +kernel) (pa_cons (pe_lc (own := [("_law_k", 12)]) (g := gName 12) (by rfl) sc_law.nd (pi_range1 rfl T.n_range (pa_cons (pe_callB call_len_seq (by rfl) T.n_len (by decide +kernel) (pa_cons (pv 2) pa_nil)) pa_nil)) (blkOk_by (own := [("_law_k", 12)]) (N := nm_law) (sc := defScope s_law) (by decide +kernel)) (fun _ _ _ _ _ => pg_name (i := 12) sc_law.nd rfl (Or.inl rfl)) (fun _ _ _ _ _ => pts_one (pt_cmpR op_notN1 (pe_ix (hIxT _ _ _ _ _) (pe_ix (hIxL _ _ _ _ _) (pv 2) (pv 12) (fun _ _ => rfl)) (pe_int) (fun _ _ => rfl)) (pe_non) (nomark _))) (fun _ _ _ _ _ => pv 12)) pa_nil)) (nomark _)) (pss_one (ps_ret (pe_bl))) (pss_nil))
      (pss_cons (ps_set (i := 11) sc_law.nd rfl (Or.inl rfl) (pe_op op_cat (pe_lst (pa_cons (pe_newD O_Way3 (hr.mono (by decide)) passL (pa_cons (pe_int) (pa_cons (pe_int) (pa_cons (pe_int) pa_nil)))) pa_nil)) (pe_slice sl_list (pv 10) (po_some (pe_int)) po_none)))
      (pss_cons (ps_if (PW.pt (pw_or (pt_cmpR (neO O_Race_eq T.Race.neM (hr.mono (by decide)) pass0) (pv 8) (pe_new O_Race (hr.mono (by decide)) passL (pa_cons (pe_callTy call_tuple_of (by rfl) T.n_tuple (by decide +kernel) (pa_cons (pv 10) pa_nil)) (pa_cons (pv 3) pa_nil))) (nomark _)) (pw_or (pt_cmpR (eqO O_Race_eq T.Race.neM (hr.mono (by decide)) pass0) (pv 8) (pe_new O_Race (hr.mono (by decide)) passL (pa_cons (pv 10) (pa_cons (pe_op op_mod (pe_callTy call_int1 (by rfl) T.n_int (by decide +kernel) (pa_cons (pe_op op_add (pv 3) (pe_int)) pa_nil)) (pe_int)) pa_nil))) (nomark _)) (pw_or1 (pt_cmpR (eqO O_Race_eq T.Race.neM (hr.mono (by decide)) pass0) (pv 8) (pe_new O_Race (hr.mono (by decide)) passL (pa_cons (pv 11) (pa_cons (pv 3) pa_nil))) (nomark _)))))) (pss_one (ps_ret (pe_bl))) (pss_nil))
      (pss_one (ps_ret (pe_and (pe_cmpR (neO O_Race_eq T.Race.neM (hr.mono (by decide)) pass0) (pv 8) (pe_callTy call_tuple_of (by rfl) T.n_tuple (by decide +kernel) (pa_cons (pv 10) pa_nil)) (nomark _)) (pe_one (pe_own O__law_ways_refused (hr.mono (by decide)) pass0 (pa_cons (pv 8) (pa_cons (pe_callB call_len_seq (by rfl) T.n_len (by decide +kernel) (pa_cons (pv 2) pa_nil)) pa_nil))))))))))))))))))))))))), ?_⟩
    refine ⟨_, rfl, a, _, rfl, .inl hS, fun s hs => ⟨by show 2 ≤ sizeLine; decide, fun b hb => ?_⟩⟩
    have hsb : s ≠ b := ne_of_none upd_same hb
    have st0 : StAt (upd (upd H s (.lst (ns.map V.int))) b (.lst [.ref s, .int 0])) b s 0 := ⟨ns, 0, upd_same, by rw [upd_ne hsb]; exact upd_same, hlen, Int.le_refl _, Int.le_refl _⟩
    generalize upd (upd H s (.lst (ns.map V.int))) b (.lst [.ref s, .int 0]) = H0 at st0 ⊢
    -- the ways
    refine ⟨_, rfl, b, s, 0, 5, rfl, st0, by omega, by omega, by omega, fun D qs ds H1 hD1 nDb nDs tu1 l1 l5 st1 x1 => ?_⟩
    obtain ⟨x0, hx0⟩ : ∃ x, qs[0]? = some x := ⟨_, List.getElem?_eq_getElem (by rw [tu1.1]; omega)⟩
    obtain ⟨d0, hd0⟩ : ∃ x, ds[0]? = some x := ⟨_, List.getElem?_eq_getElem (by omega)⟩
    obtain ⟨g0, q0, rfl, hq0, nq0b, nq0s⟩ := tu1.2 0 x0 d0 hx0 hd0
    -- silent
    refine ⟨_, rfl, by show 9 ≤ sizeLine; decide, fun t ht => ?_⟩
    have et := Ext.upd (o := .tup [.int 0, .int 1, .int 2, .int 3, .int 4, .int (-1), .bl true, .non, .str "1"]) ht
    have nt := st1.new ht
    refine ⟨_, rfl, b, s, 40, 9, rfl, st1.ext et, by omega, by omega, by omega, fun z H2 z0 z9 st2 x2 => ?_⟩
    have ht2 := x2 t _ nt.1 nt.2 upd_same
    have hD2 := x2 D _ nDb nDs (et _ _ hD1)
    have hq2 := x2 q0 _ nq0b nq0s (et _ _ hq0)
    have tu2 := (tu1.to (Ext.s et)).to x2
    obtain ⟨vz, hvz, fz, hz⟩ := silents z0 z9
    refine ⟨t, _, z, vz, rfl, rfl, SqT.of ht2, hvz, ?_⟩
    -- given
    refine ⟨_, rfl, D, b, s, qs, ds, rfl, hD2, tu2, by rw [tu2.1]; omega, fun M ps H3 e3 hM0 hM3 hw3 => ?_⟩
    have nM := st2.new hM0
    have st3 := st2.ext e3
    have tu3 := tu2.to (Ext.s (b := b) (s := s) e3)
    have hD3 := e3 _ _ hD2
    have hq3 := e3 _ _ hq2
    have nMD : D ≠ M := ne_of_none hD2 hM0
    have lps : ps.length = ds.length := hw3.1
    refine ⟨_, rfl, b, s, 41, 8, rfl, st3.le (by omega), by omega, by omega, by omega, fun wr H4 w0 w8 st4 x4 => ?_⟩
    have hM4 := x4 M _ nM.1 nM.2 hM3
    have hD4 := x4 D _ nDb nDs hD3
    have hq4 := x4 q0 _ nq0b nq0s hq3
    have tu4 := tu3.to x4
    have hw4 : Ways K A H4 ps ds := ⟨hw3.1, fun i x d h1 h2 => by
      obtain ⟨q, e, dx, T1, xs, p1, p2, p3⟩ := hw3.2 i x d h1 h2
      have hne : q ≠ b ∧ q ≠ s := by
        obtain ⟨ns', i', hb', hs', _⟩ := st3
        exact ⟨fun z => (by rw [z, hb'] at p1; cases p1), fun z => (by rw [z, hs'] at p1; cases p1)⟩
      refine ⟨q, e, dx, T1, xs, x4 q _ hne.1 hne.2 p1, ?_, ?_⟩
      · rcases p2 with (p2 | ⟨o, p2⟩) | p2
        · have hn2 : T1 ≠ b ∧ T1 ≠ s := by
            obtain ⟨ns', i', hb', hs', _⟩ := st3
            exact ⟨fun z => (by rw [z, hb'] at p2; cases p2), fun z => (by rw [z, hs'] at p2; cases p2)⟩
          exact .inl (.inl (x4 _ _ hn2.1 hn2.2 p2))
        · have hn2 : T1 ≠ b ∧ T1 ≠ s := by
            obtain ⟨ns', i', hb', hs', _⟩ := st3
            exact ⟨fun z => (by rw [z, hb'] at p2; cases p2), fun z => (by rw [z, hs'] at p2; cases p2)⟩
          exact .inl (.inr ⟨o, x4 _ _ hn2.1 hn2.2 p2⟩)
        · exact .inr p2
      · have p3' : DpAll K H3 xs [] := p3
        cases p3'
        exact .nil⟩
    have nps : ∀ v : V, (∀ q dx fs, v = .ref q → H4 q = some (.ins A.Way dx fs) → False) → v ∉ ps := fun v h hm => by
      obtain ⟨q, dx, fs, e, e0⟩ := ways_kit T hw4 v hm
      exact h q dx fs e e0
    -- one of them put otherwise
    refine ⟨fun σ H' => ∃ ps', σ = [some (.ref a), some (.ref b), some (.ref D), some vz, some (.ref M), some (.int wr), Option.none, Option.none, Option.none, Option.none, Option.none, Option.none, Option.none] ∧ H' M = some (.lst ps') ∧ ps'.length = ds.length ∧
      (∀ x ∈ ps', ∃ tx, (∀ H'', Ext H' H'' → TyX K H'' x tx) ∧ PySem.W.kitOne K tx (.ref A.Way) = some (decide (x ∈ ps))) ∧ (wr = 7 → (ps'.all fun x => decide (x ∈ ps)) = false) ∧ (wr ≠ 7 → ps' = ps ∧ Ways K A H' ps ds) ∧ StAt H' b s 44 ∧ H' D = some (.lst qs) ∧ Tups b s H' qs ds, ?_, ?_⟩
    · refine ⟨_, rfl, rfl, _, rfl, ?_⟩
      rw [dvi]
      by_cases h7 : wr = 7
      · rw [decide_eq_true h7]
        refine iteT ⟨_, rfl, D, qs, 0, .ref q0, rfl, rfl, SqL.of hD4, atI_nat (j := 0) hx0, by show 3 ≤ sizeLine; decide, fun t5 ht5 => ?_⟩
        have e5 := Ext.upd (o := .tup [.non, .ref q0, .str "way"]) ht5
        have n5 := st4.new ht5
        refine ⟨_, rfl, b, s, 42, 3, rfl, st4.ext e5, by omega, by omega, by omega, fun c H6 c0 c3 st6 x6 => ?_⟩
        have ht6 := x6 t5 _ n5.1 n5.2 upd_same
        have hM6 := x6 M _ nM.1 nM.2 (e5 _ _ hM4)
        have hD6 := x6 D _ nDb nDs (e5 _ _ hD4)
        have hq6 := x6 q0 _ nq0b nq0s (e5 _ _ hq4)
        have tu6 := (tu4.to (Ext.s e5)).to x6
        have hw6 : ∀ x ∈ ps, ∃ q dx fs, x = .ref q ∧ H6 q = some (.ins A.Way dx fs) := fun x hx => by
          obtain ⟨q, dx, fs, e, e0⟩ := ways_kit T hw4 x hx
          have hne : q ≠ b ∧ q ≠ s := by
            obtain ⟨ns', i', hb', hs', _⟩ := st4
            exact ⟨fun z => (by rw [z, hb'] at e0; cases e0), fun z => (by rw [z, hs'] at e0; cases e0)⟩
          exact ⟨q, dx, fs, e, x6 q _ hne.1 hne.2 (e5 _ _ e0)⟩
        obtain ⟨v, tv, hv, hnv, htv, hkv⟩ : ∃ v tv, atI [V.non, .ref q0, .str "way"] c = some v ∧ v ∉ ps ∧ (∀ H', (∀ o, H6 q0 = some o → H' q0 = some o) → TyX K H' v tv) ∧ PySem.W.kitOne K tv (.ref A.Way) = some false := by
          have hc : c = 0 ∨ c = 1 ∨ c = 2 := by omega
          rcases hc with rfl | rfl | rfl
          · exact ⟨_, _, rfl, nps _ (fun _ _ _ e _ => nomatch e), (fun _ _ => .base .non), kit_ty_way T (by decide +kernel)⟩
          · refine ⟨_, _, rfl, nps _ (fun q dx fs e h => ?_), (fun H' hh => .base (.tup (hh _ hq6))), kit_ty_way T (by decide +kernel)⟩
            injection e with e
            rw [← e, hq4] at h
            cases h
          · exact ⟨_, _, rfl, nps _ (fun _ _ _ e _ => nomatch e), (fun _ _ => .base (.str _)), kit_ty_way T (by decide +kernel)⟩
        refine ⟨t5, _, c, v, rfl, rfl, SqT.of ht6, hv, ?_⟩
        refine ⟨_, rfl, _, rfl, _, rfl, M, ps, rfl, .inl (SqL.of hM6), b, s, 43, _, rfl, st6, by omega, by omega, by omega, fun j H7 j0 jl st7 x7 => ?_⟩
        have hM7 := x7 M _ nM.1 nM.2 hM6
        have hD7 := x7 D _ nDb nDs hD6
        have hq7 := x7 q0 _ nq0b nq0s hq6
        have tu7 := tu6.to x7
        obtain ⟨jn, rfl⟩ : ∃ jn : Nat, j = (jn : Int) := ⟨j.toNat, by omega⟩
        have jlt : jn < ps.length := by omega
        have mt : ∀ y o, y ≠ M → H7 y = some o → upd H7 M (.lst (ps.set jn v)) y = some o := fun y o hy h => by
          rw [upd_ne hy]
          exact h
        have nqM : q0 ≠ M := fun z => by rw [z, hM7] at hq7; cases hq7
        refine ⟨M, ps, _, jn, rfl, rfl, hM7, Evl.ixN_nat jlt, ps.set jn v, rfl, upd_same, by rw [List.length_set]; exact lps, fun x hx => ?_, fun _ => set_bad jlt hnv, fun h => absurd h7 h, st7.upd nM.1 nM.2, mt D _ nMD hD7, tu7.mutL hM7 mt⟩
        by_cases hm : x ∈ ps
        · obtain ⟨q, dx, fs, rfl, e0⟩ := hw6 x hm
          rw [decide_eq_true hm]
          refine ⟨.ref A.Way, fun H' e => T.Way.tyOf (dx := dx) (fs := fs) (e _ _ ?_), T.Way.me⟩
          have hne : q ≠ b ∧ q ≠ s := by
            obtain ⟨ns', i', hb', hs', _⟩ := st6
            exact ⟨fun z => (by rw [z, hb'] at e0; cases e0), fun z => (by rw [z, hs'] at e0; cases e0)⟩
          exact mt q _ (fun z => by rw [z, hM6] at e0; cases e0) (x7 q _ hne.1 hne.2 e0)
        · rcases List.mem_or_eq_of_mem_set hx with z | rfl
          · exact absurd z hm
          · rw [decide_eq_false hm]
            exact ⟨tv, fun H' e => htv H' (fun o ho => e _ _ (mt q0 _ nqM (x7 q0 _ nq0b nq0s ho))), hkv⟩
      · rw [decide_eq_false h7]
        exact iteF ⟨ps, rfl, hM4, lps, ways_id T hw4, fun h => absurd h h7, fun _ => ⟨rfl, hw4⟩, st4.le (by omega), hD4, tu4⟩
    rintro σ H5 ⟨ps', rfl, hM5, lps5, hx5, h75, hn5, st5, hD5, tu5⟩
    -- or the list itself
    refine ⟨fun σ H' => ∃ vg t k xs g, σ = [some (.ref a), some (.ref b), some (.ref D), some vz, some vg, some (.int wr), Option.none, Option.none, Option.none, Option.none, Option.none, Option.none, Option.none] ∧ Giv K A H' vg t k xs g ∧ H' D = some (.lst qs) ∧ Tups b s H' qs ds ∧
      (okG k xs g = !(decide (5 < wr) || decide (4 < (ds.length : Int)))) ∧ (okG k xs g = true → vg = .ref M ∧ xs = ps ∧ H' M = some (.lst ps) ∧ Ways K A H' ps ds), ?_, ?_⟩
    · refine ⟨_, rfl, rfl, _, rfl, ?_⟩
      rw [dvi]
      by_cases h6 : wr = 6
      · rw [decide_eq_true h6]
        obtain ⟨rfl, hw5⟩ := hn5 (by omega)
        have h5 : decide (5 < wr) = true := decide_eq_true (by omega)
        obtain ⟨y0, hy0⟩ : ∃ x, ps'[0]? = some x := ⟨_, List.getElem?_eq_getElem (by omega)⟩
        obtain ⟨r0, rfl, wd0⟩ := hw5.2 0 y0 d0 hy0 hd0
        refine iteT ⟨by show 0 ≤ sizeLine; decide, fun t1 ht1 => ?_⟩
        have e1 := Ext.upd (o := .lst []) ht1
        refine ⟨_, rfl, M, ps', 0, .ref r0, rfl, rfl, SqL.of (e1 _ _ hM5), atI_nat (j := 0) hy0, by show 4 ≤ sizeLine; decide, fun t2 ht2 => ?_⟩
        have e2 := Ext.upd (o := .lst [.non, .ref t1, .ref r0, .int 3]) ht2
        have n1 := st5.new ht1
        have n2 := (st5.ext e1).new ht2
        refine ⟨_, rfl, b, s, 44, 4, rfl, (st5.ext e1).ext e2, by omega, by omega, by omega, fun c H6 c0 c4 st6 x6 => ?_⟩
        have h16 := x6 t1 _ n1.1 n1.2 (e2 _ _ upd_same)
        have h26 := x6 t2 _ n2.1 n2.2 upd_same
        have hD6 := x6 D _ nDb nDs (e2 _ _ (e1 _ _ hD5))
        have tu6 := ((tu5.to (Ext.s e1)).to (Ext.s e2)).to x6
        have fin : ∀ vg t k xs g, Giv K A H6 vg t k xs g → okG k xs g = false → ∃ vg' t k xs g, [some (V.ref a), some (.ref b), some (.ref D), some vz, some vg, some (.int wr), Option.none, Option.none, Option.none, Option.none, Option.none, Option.none, Option.none] = [some (V.ref a), some (.ref b), some (.ref D), some vz, some vg', some (.int wr), Option.none, Option.none, Option.none, Option.none, Option.none, Option.none, Option.none] ∧ Giv K A H6 vg' t k xs g ∧ H6 D = some (.lst qs) ∧ Tups b s H6 qs ds ∧
            (okG k xs g = !(decide (5 < wr) || decide (4 < (ds.length : Int)))) ∧ (okG k xs g = true → vg' = .ref M ∧ xs = ps' ∧ H6 M = some (.lst ps') ∧ Ways K A H6 ps' ds) := fun vg t k xs g h1 h2 => ⟨vg, t, k, xs, g, rfl, h1, hD6, tu6, by rw [h2, h5]; rfl, fun h => by rw [h2] at h; cases h⟩
        have hc : c = 0 ∨ c = 1 ∨ c = 2 ∨ c = 3 := by omega
        rcases hc with rfl | rfl | rfl | rfl
        · obtain ⟨t, hg⟩ := giv_dp (K := K) (A := A) (H := H6) (.non) rfl
          exact ⟨t2, _, 0, _, rfl, rfl, SqL.of h26, rfl, fin _ _ _ _ _ hg rfl⟩
        · obtain ⟨t, hg⟩ := giv_nil (K := K) (A := A) h16
          exact ⟨t2, _, 1, _, rfl, rfl, SqL.of h26, rfl, fin _ _ _ _ _ hg rfl⟩
        · obtain ⟨dx, fs, e0⟩ := wd_ins wd0
          have hne : r0 ≠ b ∧ r0 ≠ s := by
            obtain ⟨ns', i', hb', hs', _⟩ := st5
            exact ⟨fun z => (by rw [z, hb'] at e0; cases e0), fun z => (by rw [z, hs'] at e0; cases e0)⟩
          have e06 := x6 r0 _ hne.1 hne.2 (e2 _ _ (e1 _ _ e0))
          exact ⟨t2, _, 2, _, rfl, rfl, SqL.of h26, rfl, fin _ (.ref A.Way) false [] (fun _ => true) ⟨fun H' e => T.Way.tyOf (e _ _ e06), kit_ways T, (fun z => nomatch z), Nat.zero_le _, fun x h => nomatch h⟩ rfl⟩
        · obtain ⟨t, hg⟩ := giv_dp (K := K) (A := A) (H := H6) (.int 3) rfl
          exact ⟨t2, _, 3, _, rfl, rfl, SqL.of h26, rfl, fin _ _ _ _ _ hg rfl⟩
      · rw [decide_eq_false h6]
        obtain ⟨t, hg⟩ := giv_lst (A := A) hM5 (by omega) hx5
        have l1' : decide ((1 : Int) ≤ (ps'.length : Int)) = true := decide_eq_true (by omega)
        refine iteF ⟨.ref M, t, true, ps', _, rfl, hg, hD5, tu5, ?_, fun hok => ?_⟩
        · unfold okG
          rw [l1', lps5]
          by_cases h7 : wr = 7
          · rw [h75 h7, decide_eq_true (show 5 < wr by omega)]
            simp
          · obtain ⟨rfl, _⟩ := hn5 h7
            rw [all_mem, decide_eq_false (show ¬ 5 < wr by omega)]
            by_cases h4 : (ds.length : Int) ≤ 4
            · rw [decide_eq_true h4, decide_eq_false (show ¬ 4 < (ds.length : Int) by omega)]
              rfl
            · rw [decide_eq_false h4, decide_eq_true (show 4 < (ds.length : Int) by omega)]
              rfl
        · by_cases h7 : wr = 7
          · unfold okG at hok
            rw [h75 h7] at hok
            simp at hok
          · obtain ⟨rfl, hw5⟩ := hn5 h7
            exact ⟨rfl, rfl, hM5, hw5⟩
    rintro σ H6 ⟨vg, tg, kg, xs, g, rfl, hg, hD6, tu6, hok, hway⟩
    -- what is due
    refine ⟨fun σ H' => σ = [some (.ref a), some (.ref b), some (.ref D), some vz, some vg, some (.int wr), some (if betD (pd vz) 0 3 = true then .non else .str "silent"), Option.none, Option.none, Option.none, Option.none, Option.none, Option.none] ∧ Ext H6 H', ?_, ?_⟩
    · refine ⟨_, rfl, _, .ty "bool", .type (tnD (pd vz)), .type "bool", isBoolD (pd vz), rfl, .ty _, dp_ty (dp_fl fz), kd_bool, _, rfl, ?_⟩
      cases hbo : isBoolD (pd vz) with
      | true =>
        rw [hbo] at hz
        have hbd : betD (pd vz) 0 3 = false := by
          cases h : betD (pd vz) 0 3 with
          | true => rw [h] at hz; cases hz
          | false => rfl
        refine iteT (iteT ⟨?_, Ext.rfl'⟩)
        rw [hbd]
        rfl
      | false =>
        rw [hbo] at hz
        refine iteF ⟨_, rfl, by show 4 ≤ sizeLine; decide, fun t1 ht1 => ?_⟩
        have e1 := Ext.upd (o := .lst [.int 0, .int 1, .int 2, .int 3]) ht1
        refine ⟨pd vz, [.int 0, .int 1, .int 2, .int 3], dp_ext e1 _ _ (dp_fl fz), .lst (SqL.of upd_same) (.cons (.int _) (.cons (.int _) (.cons (.int _) (.cons (.int _) .nil)))), shp_fl fz, rfl, _, rfl, ?_⟩
        have hz' : (!([PyData.int 0, .int 1, .int 2, .int 3].any fun z => PyData.eqv z (pd vz))) = !betD (pd vz) 0 3 := hz
        rw [hz']
        cases hbd : betD (pd vz) 0 3 with
        | true => exact iteF ⟨rfl, e1⟩
        | false => exact iteT ⟨rfl, e1⟩
    rintro σ H7 ⟨rfl, e7⟩
    refine ⟨fun σ H' => σ = [some (.ref a), some (.ref b), some (.ref D), some vz, some vg, some (.int wr), some (if okG kg xs g = true then (if betD (pd vz) 0 3 = true then .non else .str "silent") else .str "ways"), Option.none, Option.none, Option.none, Option.none, Option.none, Option.none] ∧ H' = H7, ?_, ?_⟩
    · refine ⟨_, rfl, _, _, rfl, rfl, _, rfl, ?_⟩
      cases h5 : decide (5 < wr) with
      | true =>
        rw [h5] at hok
        refine iteT (iteT ⟨?_, rfl⟩)
        rw [show okG kg xs g = false from hok]
        rfl
      | false =>
        rw [h5] at hok
        refine iteF ⟨_, rfl, D, qs, rfl, .inl (SqL.of (e7 _ _ hD6)), _, _, rfl, rfl, _, rfl, ?_⟩
        rw [tu6.1]
        cases h4 : decide (4 < (ds.length : Int)) with
        | true =>
          rw [h4] at hok
          refine iteT ⟨?_, rfl⟩
          rw [show okG kg xs g = false from hok]
          rfl
        | false =>
          rw [h4] at hok
          refine iteF ⟨?_, rfl⟩
          rw [show okG kg xs g = true from hok]
          rfl
    rintro σ H8 ⟨rfl, rfl⟩
    have hsil : okG kg xs g = true → betD (pd vz) 0 3 = true → (if okG kg xs g = true then (if betD (pd vz) 0 3 = true then V.non else V.str "silent") else V.str "ways") = .non := fun h1 h2 => by rw [h1, h2]; rfl
    have hdw : okG kg xs g = false → (if okG kg xs g = true then (if betD (pd vz) 0 3 = true then V.non else V.str "silent") else V.str "ways") = .str "ways" := fun h1 => by rw [h1]; rfl
    have hds : okG kg xs g = true → betD (pd vz) 0 3 = false → (if okG kg xs g = true then (if betD (pd vz) 0 3 = true then V.non else V.str "silent") else V.str "ways") = .str "silent" := fun h1 h2 => by rw [h1, h2]; rfl
    generalize (if okG kg xs g = true then (if betD (pd vz) 0 3 = true then V.non else V.str "silent") else V.str "ways") = due at hsil hdw hds ⊢
    refine ⟨_, rfl, _, rfl, fun xr dx hxr hdx hne => ?_⟩
    have e0 := (Ext.upd (o := .own xr) hdx).upd' (o := .ins A.Race dx []) (by rw [upd_ne hne.symm]; exact hxr)
    obtain ⟨g1, g2, g3, g4, g5⟩ := (hg.ext e7).ext e0
    refine ⟨xr, dx, vg, vz, pd vz, tg, kg, xs, g, rfl, upd_same, dp_fl fz, g1, g2, g3, g4, g5, fun hbad H9 e9 e he => ?_, fun hgood hb H9 e9 e he => ?_, fun hgood hb H9 hT hB => ⟨rfl, ?_⟩⟩
    · refine ⟨true, T.x_pw, fun _ ae hae => ?_, fun z => nomatch z⟩
      refine ⟨_, rfl, rfl, (fun dd h => ⟨_, by cases h; exact upd_same⟩), .ref A.BadPart, .ref A.BadPart, true, rfl, fun u h => h, T.x_pp, _, rfl, ?_⟩
      refine iteT ⟨_, rfl, rfl, rfl, e, _, _, rfl, upd_same, rfl, ?_⟩
      refine ⟨_, rfl, rfl, _, rfl, iteT (iteT ?_)⟩
      obtain rfl := hdw hbad
      refine ⟨_, rfl, _, rfl, rfl, ?_⟩
      rw [decide_eq_true rfl]
      exact k _
    · refine ⟨true, T.x_pw, fun _ ae hae => ?_, fun z => nomatch z⟩
      refine ⟨_, rfl, rfl, (fun dd h => ⟨_, by cases h; exact upd_same⟩), .ref A.BadPart, .ref A.BadPart, true, rfl, fun u h => h, T.x_pp, _, rfl, ?_⟩
      refine iteT ⟨_, rfl, rfl, rfl, e, _, _, rfl, upd_same, rfl, ?_⟩
      refine ⟨_, rfl, rfl, _, rfl, iteT (iteT ?_)⟩
      obtain rfl := hds hgood hb
      refine ⟨_, rfl, _, rfl, rfl, ?_⟩
      rw [decide_eq_true rfl]
      exact k _
    · obtain rfl := hsil hgood hb
      obtain ⟨rfl, rfl, hM6, hw6⟩ := hway hgood
      obtain ⟨zi, hzi, zi0, zi3⟩ := bet_yes hb
      obtain rfl := pd_int hzi
      have h4 : ds.length ≤ 4 := by
        have h := hok
        rw [show okG kg xs g = true from hgood] at h
        have h' : ¬ (4 < (ds.length : Int)) := fun z => by
          rw [decide_eq_true z, Bool.or_true] at h
          cases h
        omega
      have e9 : Ext H8 H9 := fun a o h => hB a o (ne_of_none h hxr) (e0 a o h)
      have e69 := e7.trans e9
      obtain ⟨T9, hr9, hT9⟩ := hT
      have hM9 := e69 _ _ hM6
      have hD9 := e69 _ _ hD6
      have nxM : xr ≠ M := fun z => by rw [z, hM9] at hr9; cases hr9
      refine ⟨_, rfl, rfl, _, rfl, iteF ⟨_, rfl, rfl, _, rfl, iteF ?_⟩⟩
      refine ⟨_, rfl, .inl ⟨rfl, _, SqL.of hM9⟩, fun x1 dn hx1 hdx1 hne1 => mk_way0 (d := (some 0, 1, 1)) T hx1 hdx1 hne1 (fun n h => by cases h; omega) ⟨by decide, by decide, by decide⟩ fun H11 e11 w11 => ⟨rfl, M, xs, .ref x1, rfl, rfl, e11 _ _ hM9, Nat.lt_of_le_of_lt (show xs.length ≤ 1000 by have := hw6.1; omega) (by decide), ?_⟩⟩
      have hM11 := e11 _ _ hM9
      have mt : ∀ y o, y ≠ M → H11 y = some o → upd H11 M (.lst (xs ++ [.ref x1])) y = some o := fun y o hy h => by
        rw [upd_ne hy]
        exact h
      have e611 := e69.trans e11
      have hD12 := mt D _ nMD (e611 _ _ hD6)
      have tu12 := (tu6.to (Ext.s e611)).mutL hM11 mt
      have hr12 := mt xr _ nxM (e11 _ _ hr9)
      have hT12 := sqT_mutL hM11 mt (hT9.ext e11)
      have hw12 := (hw6.ext e611).mut hM11 mt
      generalize upd H11 M (.lst (xs ++ [.ref x1])) = H12 at hD12 tu12 hr12 hT12 hw12 ⊢
      refine ⟨_, rfl, D, b, s, qs, ds, rfl, hD12, tu12, by rw [tu12.1]; omega, fun M2 ps2 H13 e13 hM20 hM2 hw13 => ?_⟩
      -- the tuple of ways, the number
      refine ⟨_, rfl, xr, A.Race, dx, _, _, rfl, e13 _ _ hr12, T.Race.cl, T.r_ways, rfl, _, rfl, M2, ps2, rfl, .inl ⟨SqL.of hM2, fun t1 ht1 => ?_⟩⟩
      have e14 := Ext.upd (o := .tup ps2) ht1
      refine ⟨_, tup_ways (hT12.ext (e13.trans e14)) (SqT.of upd_same) (hw12.ext (e13.trans e14)) (hw13.ext e14) rfl, fun H15 e15 => ⟨_, rfl, ?_⟩⟩
      have e1315 := e14.trans e15
      have e1215 := e13.trans e1315
      rw [decide_eq_true rfl]
      refine iteF ⟨_, rfl, xr, A.Race, dx, _, _, rfl, e1215 _ _ hr12, T.Race.cl, T.r_silent, rfl, _, rfl, rfl, _, rfl, ?_⟩
      rw [decide_eq_true rfl]
      refine iteF ?_
      -- planned
      have hR15 : RaceD K A H15 xr ds zi := ⟨dx, T9, xs, e1215 _ _ hr12, hT12.ext e1215, hw12.ext e1215⟩
      refine ⟨_, rfl, xr, dx, _, rfl, e1215 _ _ hr12, rfl, xr, ds, zi, rfl, hR15, by omega, fun t2 H16 e16 ht2 => ?_⟩
      have e1216 := e1215.trans e16
      have hD16 := e1216 _ _ hD12
      have tu16 := tu12.to (Ext.s (b := b) (s := s) e1216)
      refine ⟨_, rfl, D, qs, rfl, .inl (SqL.of hD16), (qs.length : Int), rfl, by omega, by rw [tu16.1]; omega, fun L hL => ?_⟩
      refine lc_range (fun i H' => Ext H16 H' ∧ H' L = some (.lst ((pl ds i).map V.int))) ⟨Ext.upd hL, upd_same⟩ (fun i H' hi pv => ?_) (fun H' pv => ?_)
      · obtain ⟨e1, hl⟩ := pv
        have hi' : i < ds.length := by rw [← tu16.1]; omega
        obtain ⟨d, hd⟩ : ∃ d, ds[i]? = some d := ⟨_, List.getElem?_eq_getElem hi'⟩
        obtain ⟨x, hx⟩ : ∃ d, qs[i]? = some d := ⟨_, List.getElem?_eq_getElem (by rw [tu16.1]; exact hi')⟩
        obtain ⟨gd, q, rfl, hq, _, _⟩ := tu16.2 i x d hx hd
        refine ⟨rfl, _, rfl, _, rfl, D, qs, _, .ref q, rfl, rfl, SqL.of (e1 _ _ hD16), (by rw [Int.zero_add]; exact atI_nat hx), q, w3 d, 0, bV d.1, rfl, rfl, SqT.of (e1 _ _ hq), rfl, rfl, _, rfl, ?_⟩
        rw [← has_at hd]
        cases h : has ds i with
        | true =>
          refine iteT ⟨_, rfl, _, hl, Nat.lt_of_le_of_lt (show ((pl ds i).map V.int).length ≤ 1000 by rw [List.length_map]; exact Nat.le_trans (pl_len ds i) (by omega)) (by decide), ext_mut e1 hL, ?_⟩
          rw [upd_same, pl_succ, h, List.map_append]
          simp
        | false =>
          refine iteF ⟨e1, ?_⟩
          rw [hl, pl_succ, h]
          simp
      obtain ⟨e17, hl⟩ := pv
      rw [show ((qs.length : Int)).toNat = ds.length by rw [← tu16.1]; omega] at hl
      refine ⟨L, _, rfl, .inl ⟨SqL.of hl, fun t3 ht3 => ?_⟩⟩
      have e18 := Ext.upd (o := .tup ((pl ds ds.length).map V.int)) ht3
      have fl : ∀ v ∈ (pl ds ds.length).map V.int, Fl v := fun v hv => by
        obtain ⟨n, _, rfl⟩ := List.mem_map.mp hv
        exact trivial
      refine ⟨_, _, .tup (SqT.of ((e17.trans e18) _ _ ht2)) (dp_all fl), .tup (SqT.of upd_same) (dp_all fl), shp_tup fl, shp_tup fl, _, rfl, ?_⟩
      rw [pl_eqv]
      refine iteF ?_
      have e1618 := e17.trans e18
      have e1218 := e1216.trans e1618
      have e1318 := (e1315.trans e16).trans e1618
      generalize upd _ t3 _ = H18 at e18 e1618 e1218 e1318 ⊢
      have hR18 : RaceD K A H18 xr ds zi := hR15.ext (e16.trans e1618)
      have hr18 := e1218 _ _ hr12
      have hM18 := e1318 _ _ hM2
      have hw18 : Ways K A H18 ps2 ds := hw13.ext e1318
      have hD18 := e1218 _ _ hD12
      have lp2 : ps2.length = ds.length := hw13.1
      have hg0 := (tu6.2 0 (.ref q0) d0 hx0 hd0).1
      -- another list of ways
      refine fun x2 dn2 hx2 hdx2 hne2 => mk_way0 (d := (some 7, 1, 1)) T hx2 hdx2 hne2 (fun n h => by cases h; omega) ⟨by decide, by decide, by decide⟩ fun H19 e19 w19 => ⟨rfl, by show 1 ≤ sizeLine; decide, fun l1 hl1 => ?_⟩
      have e20 := Ext.upd (o := .lst [.ref x2]) hl1
      have hM20' := e20 _ _ (e19 _ _ hM18)
      refine ⟨_, rfl, 1, rfl, M2, ps2, rfl, SqL.of hM20', fun l2 hl2 => ?_⟩
      have hcut : cutV ps2 (some 1) Option.none = ps2.drop 1 := cut1 (by omega)
      rw [hcut]
      have e21 := Ext.upd (o := .lst (ps2.drop 1)) hl2
      refine ⟨l1, l2, _, _, rfl, rfl, e21 _ _ upd_same, upd_same, ?_, fun l3 hl3 => ?_⟩
      · have : (ps2.drop 1).length ≤ 1000 := by rw [List.length_drop]; omega
        exact Nat.le_trans (show [V.ref x2].length + (ps2.drop 1).length ≤ 1001 by show 1 + _ ≤ _; omega) (by decide)
      have e22 := Ext.upd (o := .lst ([.ref x2] ++ ps2.drop 1)) hl3
      have e1822 := ((e19.trans e20).trans e21).trans e22
      have hl3' : upd (upd (upd H19 l1 (.lst [.ref x2])) l2 (.lst (ps2.drop 1))) l3 (.lst ([.ref x2] ++ ps2.drop 1)) l3 = some (.lst ([.ref x2] ++ ps2.drop 1)) := upd_same
      have w22 : WayD K A (upd (upd (upd H19 l1 (.lst [.ref x2])) l2 (.lst (ps2.drop 1))) l3 (.lst ([.ref x2] ++ ps2.drop 1))) x2 (some 7, 1, 1) := w19.ext ((e20.trans e21).trans e22)
      generalize upd (upd (upd H19 l1 (.lst [.ref x2])) l2 (.lst (ps2.drop 1))) l3 (.lst ([.ref x2] ++ ps2.drop 1)) = H22 at e1822 hl3' w22 ⊢
      have hw22 := hw18.ext e1822
      have hwo : Ways K A H22 ([.ref x2] ++ ps2.drop 1) ((some 7, 1, 1) :: ds.drop 1) := by
        refine ⟨by show (ps2.drop 1).length + 1 = (ds.drop 1).length + 1; rw [List.length_drop, List.length_drop, lp2], fun i x d h1 h2 => ?_⟩
        cases i with
        | zero => cases h1; cases h2; exact ⟨x2, rfl, w22⟩
        | succ i =>
          have h1' : (ps2.drop 1)[i]? = some x := h1
          have h2' : (ds.drop 1)[i]? = some d := h2
          rw [List.getElem?_drop] at h1' h2'
          exact hw22.2 _ x d h1' h2'
      have lwo : ((some (7 : Int), (1 : Int), (1 : Int)) :: ds.drop 1).length = ds.length := by
        show (ds.drop 1).length + 1 = ds.length
        rw [List.length_drop]
        omega
      -- the same once more
      refine ⟨_, rfl, _, rfl, M2, ps2, rfl, .inl ⟨SqL.of (e1822 _ _ hM18), fun t4 ht4 => ?_⟩⟩
      have e23 := Ext.upd (o := .tup ps2) ht4
      refine ⟨_, rfl, fun x3 dx3 hx3 hdx3 hne3 => mk_race T hx3 hdx3 hne3 (.inr upd_same) (hw22.ext e23) (by omega) (by omega) ⟨zi0, zi3⟩ fun H24 e24 r24 => ⟨rfl, ?_⟩⟩
      have e1824 := (e1822.trans e23).trans e24
      have rR24 := hR18.ext e1824
      obtain ⟨dx3', T3, ws3, i3, _, _⟩ := id r24
      refine ⟨xr, dx, _, .ref A.Race, rfl, e1824 _ _ hr18, T.Race.tyOf i3, T.Race.nfMe, xr, ds, zi, .ref x3, rfl, rR24, .inl ⟨x3, ds, zi, rfl, r24, rfl, fun H25 e25 => ⟨_, rfl, _, rfl, ?_⟩⟩⟩
      rw [decide_eq_true ⟨rfl, rfl⟩]
      refine iteF ?_
      -- another number
      have e1825 := e1824.trans e25
      have e2225 := (e23.trans e24).trans e25
      refine ⟨_, rfl, _, rfl, _, rfl, _, _, rfl, rfl, .inl ⟨_, rfl, _, _, rfl, rfl, (show (0 : Int) < 4 by decide), fun x4 dx4 hx4 hdx4 hne4 => mk_race T hx4 hdx4 hne4 (.inl (e1825 _ _ hM18)) (hw18.ext e1825) (by omega) (by omega) ⟨by omega, by omega⟩ fun H26 e26 r26 => ⟨rfl, ?_⟩⟩⟩
      have e1826 := e1825.trans e26
      obtain ⟨dx4', T4, ws4, i4, _, _⟩ := id r26
      refine ⟨xr, dx, _, .ref A.Race, rfl, e1826 _ _ hr18, T.Race.tyOf i4, T.Race.nfMe, xr, ds, zi, .ref x4, rfl, hR18.ext e1826, .inl ⟨x4, ds, _, rfl, r26, rfl, fun H27 e27 => ⟨_, rfl, _, rfl, ?_⟩⟩⟩
      rw [decide_eq_false (fun h => by have := h.2; omega)]
      refine iteF ?_
      -- other ways
      have e1827 := e1826.trans e27
      have e2227 := (e2225.trans e26).trans e27
      refine ⟨_, rfl, _, rfl, _, rfl, fun x5 dx5 hx5 hdx5 hne5 => mk_race T hx5 hdx5 hne5 (.inl (e2227 _ _ hl3')) (hwo.ext e2227) (by rw [lwo]; omega) (by rw [lwo]; omega) ⟨zi0, zi3⟩ fun H28 e28 r28 => ⟨rfl, ?_⟩⟩
      have e1828 := e1827.trans e28
      obtain ⟨dx5', T5, ws5, i5, _, _⟩ := id r28
      refine ⟨xr, dx, _, .ref A.Race, rfl, e1828 _ _ hr18, T.Race.tyOf i5, T.Race.nfMe, xr, ds, zi, .ref x5, rfl, hR18.ext e1828, .inl ⟨x5, _, _, rfl, r28, lwo.symm, fun H29 e29 => ⟨_, rfl, _, rfl, ?_⟩⟩⟩
      have hnd : ¬ (ds = (some (7 : Int), (1 : Int), (1 : Int)) :: ds.drop 1 ∧ zi = zi) := fun h => by
        have h1 := h.1
        rw [h1] at hd0
        have h2 : d0 = (some 7, 1, 1) := (Option.some.inj hd0).symm
        rw [h2] at hg0
        have := hg0.1 7 rfl
        omega
      rw [decide_eq_false hnd]
      refine iteF ?_
      -- no tuple, and what is refused
      have e1829 := e1828.trans e29
      refine ⟨_, rfl, _, rfl, M2, ps2, rfl, .inl ⟨SqL.of (e1829 _ _ hM18), fun t6 ht6 => ?_⟩⟩
      have e30 := Ext.upd (o := .tup ps2) ht6
      have e1830 := e1829.trans e30
      refine ⟨xr, dx, _, .type "tuple", rfl, e1830 _ _ hr18, .base (.tup upd_same), nfTup, xr, ds, zi, .ref t6, rfl, hR18.ext e1830, .inr ⟨t6, ps2, rfl, SqT.of upd_same, _, rfl, _, rfl, iteT ?_⟩⟩
      have hT18 : SqT K H18 T9 xs := hT12.ext e1218
      refine ⟨_, rfl, _, rfl, D, qs, rfl, .inl (SqL.of (e1830 _ _ hD18)), xr, T9, dx, .int zi, xs, ?_, e1830 _ _ hr18, hT18.ext e1830, fun H' _ => k H'⟩
      rw [show xs.length = qs.length by rw [hw6.1, tu16.1]]
      rfl
end
end K16

set_option Elab.async false
set_option maxRecDepth 100000
set_option maxHeartbeats 4000000
namespace K16
open PySem PySem.Spec PyProof.Rows L2 L2H
section
variable {P : Program} {w : World} {K : PySem.W.Frag} {mg : Str → Option Value} {base : Heap} {A : Ad}
theorem kit_ref {B C : Addr} {b : Bool} (i : PySem.W.isClsIn K C = true) (t : PySem.W.typeIn K (.ref C) = some (.type "type")) (s : PySem.W.subIn K (.ref B) (.ref C) = some b) (ss : PySem.W.subIn K (.ref B) (.ref B) = some true) : PySem.W.kitOne K (.ref B) (.ref C) = some b := by
  by_cases h : B = C
  · subst h
    rw [ss] at s
    cases s
    exact if_pos (beq_self_eq_true _)
  · have e : ((PySem.W.clsIn K C).isSome && PySem.W.typeIn K (.ref C) == some (.type "type")) = true := by
      have h1 : (PySem.W.clsIn K C).isSome = true := i
      rw [h1, t]
      rfl
    show (if (Value.ref B == Value.ref C) = true then some true else if ((PySem.W.clsIn K C).isSome && PySem.W.typeIn K (.ref C) == some (.type "type")) = true then PySem.W.subIn K (.ref B) (.ref C) else none) = some b
    rw [if_pos e]
    have hne : ¬ ((Value.ref B == Value.ref C) = true) := fun z => by
      have z' := eq_of_beq z
      injection z' with z'
      exact h z'
    rw [if_neg hne]
    exact s
theorem exm_ref {B C : Addr} {b : Bool} (x : PySem.W.subIn K (.ref C) (.type "BaseException") = some true) (i : PySem.W.isClsIn K C = true) (t : PySem.W.typeIn K (.ref C) = some (.type "type")) (s : PySem.W.subIn K (.ref B) (.ref C) = some b) : PySem.W.exmOne K (.ref B) (.ref C) = some b := by
  unfold PySem.W.exmOne PySem.W.kitCls
  have i' : (PySem.W.clsIn K C).isSome = true := i
  rw [x]
  dsimp only
  rw [i', t, s]
  rfl
theorem ve_one {W : Addr} : PySem.HandSPX.refsVE [.ref W, .type "ValueError", .type "Exception", .type "BaseException", .type "object"] = true := by
  show PySem.HandSPX.refsVE [.type "ValueError", .type "Exception", .type "BaseException", .type "object"] = true
  decide +kernel
theorem law_ok (T : Txt K mg A) (D_is_integer : DefAt K mg "is_integer" s_is_integer pm_is_integer) (D_is_between : DefAt K mg "is_between" s_is_between pm_is_between) (D_is_index : DefAt K mg "is_index" s_is_index pm_is_index) (D_is_list : DefAt K mg "is_list" s_is_list pm_is_list) (D_is_list_of : DefAt K mg "is_list_of" s_is_list_of pm_is_list_of) (D_is_tuple_of : DefAt K mg "is_tuple_of" s_is_tuple_of pm_is_tuple_of) (D_is_begin : DefAt K mg "is_begin" s_is_begin pm_is_begin) (D_are_delays : DefAt K mg "are_delays" s_are_delays pm_are_delays) (D_is_box : DefAt K mg "is_box" s_is_box pm_is_box) (D_check_ways : DefAt K mg "check_ways" s_check_ways pm_check_ways) (D_check_silent : DefAt K mg "check_silent" s_check_silent pm_check_silent) (D_check_way : DefAt K mg "check_way" s_check_way pm_check_way) (D_check_win : DefAt K mg "check_win" s_check_win pm_check_win) (D_win_run : DefAt K mg "win_run" s_win_run pm_win_run) (D_silent_after : DefAt K mg "silent_after" s_silent_after pm_silent_after) (D_win_paper : DefAt K mg "win_paper" s_win_paper pm_win_paper) (D__law_draw : DefAt K mg "_law_draw" s__law_draw pm__law_draw) (D__law_way : DefAt K mg "_law_way" s__law_way pm__law_way) (D__law_ways : DefAt K mg "_law_ways" s__law_ways pm__law_ways) (D__law_made : DefAt K mg "_law_made" s__law_made pm__law_made) (D__law_called : DefAt K mg "_law_called" s__law_called pm__law_called) (D__law_refused : DefAt K mg "_law_refused" s__law_refused pm__law_refused) (D__law_ways_refused : DefAt K mg "_law_ways_refused" s__law_ways_refused pm__law_ways_refused)
    (M_Way_eq : MethAt K A.Way "__eq__" "Way.__eq__" s_Way_eq pm_Way_eq) (M_Race_init : MethAt K A.Race "__init__" "Race.__init__" s_Race_init pm_Race_init) (M_Race_planned : MethAt K A.Race "planned" "Race.planned" s_Race_planned pm_Race_planned) (M_Race_hurried : MethAt K A.Race "hurried" "Race.hurried" s_Race_hurried pm_Race_hurried) (M_Race_can_win : MethAt K A.Race "can_win" "Race.can_win" s_Race_can_win pm_Race_can_win) (M_Race_last_win : MethAt K A.Race "last_win" "Race.last_win" s_Race_last_win pm_Race_last_win) (M_Race_eq : MethAt K A.Race "__eq__" "Race.__eq__" s_Race_eq pm_Race_eq) (m1_Race : PySem.W.makesIn K A.Race = true) (m2_Race : PySem.W.keepIn K (.ref A.Race) = true)
    {fi : Addr} {fdi : FuncData} (FI : FunD K "__init__" "Way.__init__" (defArgs s_Way_init) (defBody s_Way_init) (defScope s_Way_init) [.ref A.T0] [] fi fdi) (MI : Mk K A.Way fi) (B4 : Binds K fdi pm_Way_init []) {d3 : List Value} (V3 : Vals [.ref A.T0] d3) (B3 : Binds K fdi pm_Way_init d3)
    {f : Addr} {fd : FuncData} (F : Fun K "law" "law" s_law f fd) : FnOk P w K mg base CX0 14 f fd pm_law (spLaw K) := by
  have X_BadPart : XCls P w K mg base "BadPart" "part" A.BadPart := T.BadPart.cls fun _ _ F => ok_xp F T
  have X_BadBox : XCls P w K mg base "BadBox" "index" A.BadBox := T.BadBox.cls fun _ _ F => ok_xb F T
  have X_NoWay : XCls P w K mg base "NoWay" "way" A.NoWay := T.NoWay.cls fun _ _ F => ok_xn F T

  have O1 : Own P w K mg base CX0 "is_integer" 1 pm_is_integer (spInteger K) := D_is_integer.own fun f fd F => ok_integer F T
  have O2 : Own P w K mg base CX0 "is_between" 2 pm_is_between (spBetween K) := D_is_between.own fun f fd F => ok_between F O1
  have O3 : Own P w K mg base CX0 "is_index" 3 pm_is_index (spIndex K) := D_is_index.own fun f fd F => ok_index F O2
  have O4 : Own P w K mg base CX0 "is_list" 1 pm_is_list (spIsList K) := D_is_list.own fun f fd F => ok_isList F T
  have O5 : Own P w K mg base CX0 "is_list_of" 2 pm_is_list_of (spListOf K) := D_is_list_of.own fun f fd F => ok_listOf F T O4
  have O6 : Own P w K mg base CX0 "is_tuple_of" 1 pm_is_tuple_of (spTupleOf K) := D_is_tuple_of.own fun f fd F => ok_tupleOf F T
  have O7 : Own P w K mg base CX0 "is_begin" 3 pm_is_begin (spBegin K) := D_is_begin.own fun f fd F => ok_begin F T O2
  have O8 : Own P w K mg base CX0 "are_delays" 3 pm_are_delays (spDelays K) := D_are_delays.own fun f fd F => ok_delays F T O2
  have O9 : Own P w K mg base CX0 "is_box" 3 pm_is_box (spBoxOk K) := D_is_box.own fun f fd F => ok_box F T O2 O6
  have GI : FnOk P w K mg base (L2.CX P w) 5 fi fdi pm_Way_init (spWayInit K A) := ok_wayInit FI T O7 O8 O5 O9 X_BadPart X_BadBox
  have OW3 : OwnCD P w K mg base (L2.CX P w) "Way" A.Way 5 pm_Way_init (spWayInit K A) [.ref A.T0] := ⟨fi, fdi, d3, GI, MI, T.Way.gC, B3, V3⟩
  have OWe : OwnM P w K mg base CX0 A.Way "__eq__" 1 pm_Way_eq (spWayEq K A) := M_Way_eq.own fun f fd F => ok_wayEq F T
  have O10 : Own P w K mg base (L2.CX P w) "check_ways" 4 pm_check_ways (spCheckWays K A) := D_check_ways.own fun f fd F => ok_checkWays F T O5 X_BadPart
  have O11 : Own P w K mg base (L2.CX P w) "check_silent" 4 pm_check_silent (spCheckSilent K A) := D_check_silent.own fun f fd F => ok_checkSilent F T O2 X_BadPart
  have O12 : Own P w K mg base (L2.CX P w) "check_way" 5 pm_check_way (spNoWay K A) := D_check_way.own fun f fd F => ok_checkWay F T O3 X_NoWay
  have OR : OwnC P w K mg base (L2.CX P w) "Race" A.Race 6 pm_Race_init (spRaceInit K A) := M_Race_init.cls (fun f fd F => ok_raceInit F T O10 O11) m1_Race m2_Race T.Race.gC
  have OR1 : OwnM P w K mg base (L2.CX P w) A.Race "hurried" 7 pm_Race_hurried (spNoWay3 K A) := M_Race_hurried.own fun f fd F => ok_hurried F T O12
  have OR2 : OwnM P w K mg base (L2.CX P w) A.Race "can_win" 7 pm_Race_can_win (spNoWay3 K A) := M_Race_can_win.own fun f fd F => ok_canWin F T O12
  have OR3 : OwnM P w K mg base (L2.CX P w) A.Race "last_win" 7 pm_Race_last_win (spNoWay K A) := M_Race_last_win.own fun f fd F => ok_lastWin F T O12
  have OR4 : OwnM P w K mg base CX0 A.Race "planned" 2 pm_Race_planned (spPlanned K A) := M_Race_planned.own fun f fd F => ok_planned F T
  have ORe : OwnM P w K mg base CX0 A.Race "__eq__" 4 pm_Race_eq (spRaceEq K A) := M_Race_eq.own fun f fd F => ok_raceEq F T OWe
  have O13 : Own P w K mg base (L2.CX P w) "check_win" 8 pm_check_win (spNoWay3 K A) := D_check_win.own fun f fd F => ok_checkWin F T OR2
  have O14 : Own P w K mg base (L2.CX P w) "win_run" 9 pm_win_run (spNoWay3 K A) := D_win_run.own fun f fd F => ok_winRun F T O13
  have O15 : Own P w K mg base (L2.CX P w) "silent_after" 9 pm_silent_after (spNoWay3 K A) := D_silent_after.own fun f fd F => ok_silentAfter F T O13
  have O16 : Own P w K mg base (L2.CX P w) "win_paper" 8 pm_win_paper (spNoWay3 K A) := D_win_paper.own fun f fd F => ok_winPaper F T OR2
  have O20 : Own P w K mg base CX0 "_law_draw" 1 pm__law_draw spDraw := D__law_draw.own fun f fd F => ok_draw F T
  have O21 : Own P w K mg base CX0 "_law_way" 2 pm__law_way spWay := D__law_way.own fun f fd F => ok_way F O20
  have O22 : Own P w K mg base CX0 "_law_ways" 3 pm__law_ways spWays := D__law_ways.own fun f fd F => ok_ways F T O20 O21
  have O23 : Own P w K mg base CX0 "_law_made" 8 pm__law_made (spMade K A) := D__law_made.own fun f fd F => ok_made F T OW3
  have O24 : Own P w K mg base (L2.CX P w) "_law_called" 11 pm__law_called (spCalled K A) := D__law_called.own fun f fd F => ok_called F T OR1 OR2 OR3 O14 O15 O16
  have O25 : Own P w K mg base CX0 "_law_refused" 12 pm__law_refused (spRefused K A) := D__law_refused.own fun f fd F => ok_refused F T O24
  have O26 : Own P w K mg base CX0 "_law_ways_refused" 13 pm__law_ways_refused (spWaysRefused K A) := D__law_ways_refused.own fun f fd F => ok_waysRefused F T O25
  exact ok_law F T O20 O22 O23 OW3 OR OWe ORe OR4 O26
end
theorem all_mk {P : Program} {w : World} {K : PySem.W.Frag} {h : Heap} {mg : Str → Option Value} {fa Td AT0 ABadPart ABadBox ANoWay AWholeError AWay ARace f_is_integer f_is_between f_is_index f_is_list f_is_list_of f_is_tuple_of f_is_begin f_are_delays f_is_box f_check_ways f_check_silent f_check_way f_check_win f_win_run f_silent_after f_win_paper f__law_draw f__law_way f__law_ways f__law_made f__law_called f__law_refused f__law_ways_refused f_law f_BadPart_init f_BadBox_init f_NoWay_init f_Way_init f_Way_eq f_Race_init f_Race_planned f_Race_hurried f_Race_can_win f_Race_last_win f_Race_eq : Addr} (X : K.In h) (G : h.Ns mainGlobals mg) (hfa : mg "law" = some (.ref fa))
    {od_is_integer an_is_integer od_is_between an_is_between od_is_index an_is_index od_is_list an_is_list od_is_list_of an_is_list_of od_is_tuple_of an_is_tuple_of od_is_begin an_is_begin od_are_delays an_are_delays od_is_box an_is_box od_check_ways an_check_ways od_check_silent an_check_silent od_check_way an_check_way od_check_win an_check_win od_win_run an_win_run od_silent_after an_silent_after od_win_paper an_win_paper od__law_draw an__law_draw od__law_way an__law_way od__law_ways an__law_ways od__law_made an__law_made od__law_called an__law_called od__law_refused an__law_refused od__law_ways_refused an__law_ways_refused od_law an_law od_BadPart_init an_BadPart_init od_BadBox_init an_BadBox_init od_NoWay_init an_NoWay_init od_Way_init an_Way_init od_Way_eq an_Way_eq od_Race_init an_Race_init od_Race_planned an_Race_planned od_Race_hurried an_Race_hurried od_Race_can_win an_Race_can_win od_Race_last_win an_Race_last_win od_Race_eq an_Race_eq ddt edt : Option Addr} {sl_is_integer sl_is_between sl_is_index sl_is_list sl_is_list_of sl_is_tuple_of sl_is_begin sl_are_delays sl_is_box sl_check_ways sl_check_silent sl_check_way sl_check_win sl_win_run sl_silent_after sl_win_paper sl__law_draw sl__law_way sl__law_ways sl__law_made sl__law_called sl__law_refused sl__law_ways_refused sl_law sl_BadPart_init sl_BadBox_init sl_NoWay_init sl_Way_init sl_Way_eq sl_Race_init sl_Race_planned sl_Race_hurried sl_Race_can_win sl_Race_last_win sl_Race_eq dsl esl : Array (Option Value)} {oc_is_integer kV_is_integer dc_is_integer pm_is_integer_ cd_is_integer ct_is_integer oc_is_between kV_is_between dc_is_between pm_is_between_ cd_is_between ct_is_between oc_is_index kV_is_index dc_is_index pm_is_index_ cd_is_index ct_is_index oc_is_list kV_is_list dc_is_list pm_is_list_ cd_is_list ct_is_list oc_is_list_of kV_is_list_of dc_is_list_of pm_is_list_of_ cd_is_list_of ct_is_list_of oc_is_tuple_of kV_is_tuple_of dc_is_tuple_of pm_is_tuple_of_ cd_is_tuple_of ct_is_tuple_of oc_is_begin kV_is_begin dc_is_begin pm_is_begin_ cd_is_begin ct_is_begin oc_are_delays kV_are_delays dc_are_delays pm_are_delays_ cd_are_delays ct_are_delays oc_is_box kV_is_box dc_is_box pm_is_box_ cd_is_box ct_is_box oc_check_ways kV_check_ways dc_check_ways pm_check_ways_ cd_check_ways ct_check_ways oc_check_silent kV_check_silent dc_check_silent pm_check_silent_ cd_check_silent ct_check_silent oc_check_way kV_check_way dc_check_way pm_check_way_ cd_check_way ct_check_way oc_check_win kV_check_win dc_check_win pm_check_win_ cd_check_win ct_check_win oc_win_run kV_win_run dc_win_run pm_win_run_ cd_win_run ct_win_run oc_silent_after kV_silent_after dc_silent_after pm_silent_after_ cd_silent_after ct_silent_after oc_win_paper kV_win_paper dc_win_paper pm_win_paper_ cd_win_paper ct_win_paper oc__law_draw kV__law_draw dc__law_draw pm__law_draw_ cd__law_draw ct__law_draw oc__law_way kV__law_way dc__law_way pm__law_way_ cd__law_way ct__law_way oc__law_ways kV__law_ways dc__law_ways pm__law_ways_ cd__law_ways ct__law_ways oc__law_made kV__law_made dc__law_made pm__law_made_ cd__law_made ct__law_made oc__law_called kV__law_called dc__law_called pm__law_called_ cd__law_called ct__law_called oc__law_refused kV__law_refused dc__law_refused pm__law_refused_ cd__law_refused ct__law_refused oc__law_ways_refused kV__law_ways_refused dc__law_ways_refused pm__law_ways_refused_ cd__law_ways_refused ct__law_ways_refused oc_law kV_law dc_law pm_law_ cd_law ct_law oc_BadPart_init kV_BadPart_init dc_BadPart_init pm_BadPart_init_ cd_BadPart_init ct_BadPart_init oc_BadBox_init kV_BadBox_init dc_BadBox_init pm_BadBox_init_ cd_BadBox_init ct_BadBox_init oc_NoWay_init kV_NoWay_init dc_NoWay_init pm_NoWay_init_ cd_NoWay_init ct_NoWay_init oc_Way_init kV_Way_init dc_Way_init pm_Way_init_ cd_Way_init ct_Way_init oc_Way_eq kV_Way_eq dc_Way_eq pm_Way_eq_ cd_Way_eq ct_Way_eq oc_Race_init kV_Race_init dc_Race_init pm_Race_init_ cd_Race_init ct_Race_init oc_Race_planned kV_Race_planned dc_Race_planned pm_Race_planned_ cd_Race_planned ct_Race_planned oc_Race_hurried kV_Race_hurried dc_Race_hurried pm_Race_hurried_ cd_Race_hurried ct_Race_hurried oc_Race_can_win kV_Race_can_win dc_Race_can_win pm_Race_can_win_ cd_Race_can_win ct_Race_can_win oc_Race_last_win kV_Race_last_win dc_Race_last_win pm_Race_last_win_ cd_Race_last_win ct_Race_last_win oc_Race_eq kV_Race_eq dc_Race_eq pm_Race_eq_ cd_Race_eq ct_Race_eq dcl : Value} {t_MOST_BEGIN t_MOST_DELAY t_MOST_BOXES t_MOST_KEEP t_MOST_WAYS t_MOST_SILENT : Tok} {dn en : Nat}
    {xBadPart_nm xBadPart_q : Str} {xBadPart_N : Addr} {xBadPart_bs : List Value} {xBadPart_sn : List Str} {xBadPart_sub : List Value} {xBadPart_ab : Bool} {xBadPart_col : Option Bool} {xBadPart_dd : Option Addr} {xBadPart_m0 xBadPart_m1 xBadPart_m2 xBadPart_m3 xBadPart_m5 : Option Value}
    {xBadBox_nm xBadBox_q : Str} {xBadBox_N : Addr} {xBadBox_bs : List Value} {xBadBox_sn : List Str} {xBadBox_sub : List Value} {xBadBox_ab : Bool} {xBadBox_col : Option Bool} {xBadBox_dd : Option Addr} {xBadBox_m0 xBadBox_m1 xBadBox_m2 xBadBox_m3 xBadBox_m5 : Option Value}
    {xNoWay_nm xNoWay_q : Str} {xNoWay_N : Addr} {xNoWay_bs : List Value} {xNoWay_sn : List Str} {xNoWay_sub : List Value} {xNoWay_ab : Bool} {xNoWay_col : Option Bool} {xNoWay_dd : Option Addr} {xNoWay_m0 xNoWay_m1 xNoWay_m2 xNoWay_m3 xNoWay_m5 : Option Value}
    (g_BadPart : PySem.W.nsIn K mainGlobals "BadPart" = some (some (.ref ABadPart)))
    (g_BadBox : PySem.W.nsIn K mainGlobals "BadBox" = some (some (.ref ABadBox)))
    (g_NoWay : PySem.W.nsIn K mainGlobals "NoWay" = some (some (.ref ANoWay)))
    (g_WholeError : PySem.W.nsIn K mainGlobals "WholeError" = some (some (.ref AWholeError)))
    (g_Way : PySem.W.nsIn K mainGlobals "Way" = some (some (.ref AWay)))
    (g_Race : PySem.W.nsIn K mainGlobals "Race" = some (some (.ref ARace)))
    (a_is_integer : PySem.W.nsIn K mainGlobals "is_integer" = some (some (.ref f_is_integer)))
    (l_is_integer : K.lookup f_is_integer = some ⟨oc_is_integer, od_is_integer, .func (PySem.W.fnOf "is_integer" "is_integer" (defArgs s_is_integer) (defBody s_is_integer) (defScope s_is_integer) .none kV_is_integer dc_is_integer pm_is_integer_ an_is_integer cd_is_integer ct_is_integer), sl_is_integer⟩)
    (c_is_integer : PySem.W.codeIn K cd_is_integer "is_integer" = true)
    (k_is_integer : PySem.W.keepIn K (.ref f_is_integer) = true)
    (a_is_between : PySem.W.nsIn K mainGlobals "is_between" = some (some (.ref f_is_between)))
    (l_is_between : K.lookup f_is_between = some ⟨oc_is_between, od_is_between, .func (PySem.W.fnOf "is_between" "is_between" (defArgs s_is_between) (defBody s_is_between) (defScope s_is_between) .none kV_is_between dc_is_between pm_is_between_ an_is_between cd_is_between ct_is_between), sl_is_between⟩)
    (c_is_between : PySem.W.codeIn K cd_is_between "is_between" = true)
    (k_is_between : PySem.W.keepIn K (.ref f_is_between) = true)
    (a_is_index : PySem.W.nsIn K mainGlobals "is_index" = some (some (.ref f_is_index)))
    (l_is_index : K.lookup f_is_index = some ⟨oc_is_index, od_is_index, .func (PySem.W.fnOf "is_index" "is_index" (defArgs s_is_index) (defBody s_is_index) (defScope s_is_index) .none kV_is_index dc_is_index pm_is_index_ an_is_index cd_is_index ct_is_index), sl_is_index⟩)
    (c_is_index : PySem.W.codeIn K cd_is_index "is_index" = true)
    (k_is_index : PySem.W.keepIn K (.ref f_is_index) = true)
    (a_is_list : PySem.W.nsIn K mainGlobals "is_list" = some (some (.ref f_is_list)))
    (l_is_list : K.lookup f_is_list = some ⟨oc_is_list, od_is_list, .func (PySem.W.fnOf "is_list" "is_list" (defArgs s_is_list) (defBody s_is_list) (defScope s_is_list) .none kV_is_list dc_is_list pm_is_list_ an_is_list cd_is_list ct_is_list), sl_is_list⟩)
    (c_is_list : PySem.W.codeIn K cd_is_list "is_list" = true)
    (k_is_list : PySem.W.keepIn K (.ref f_is_list) = true)
    (a_is_list_of : PySem.W.nsIn K mainGlobals "is_list_of" = some (some (.ref f_is_list_of)))
    (l_is_list_of : K.lookup f_is_list_of = some ⟨oc_is_list_of, od_is_list_of, .func (PySem.W.fnOf "is_list_of" "is_list_of" (defArgs s_is_list_of) (defBody s_is_list_of) (defScope s_is_list_of) .none kV_is_list_of dc_is_list_of pm_is_list_of_ an_is_list_of cd_is_list_of ct_is_list_of), sl_is_list_of⟩)
    (c_is_list_of : PySem.W.codeIn K cd_is_list_of "is_list_of" = true)
    (k_is_list_of : PySem.W.keepIn K (.ref f_is_list_of) = true)
    (a_is_tuple_of : PySem.W.nsIn K mainGlobals "is_tuple_of" = some (some (.ref f_is_tuple_of)))
    (l_is_tuple_of : K.lookup f_is_tuple_of = some ⟨oc_is_tuple_of, od_is_tuple_of, .func (PySem.W.fnOf "is_tuple_of" "is_tuple_of" (defArgs s_is_tuple_of) (defBody s_is_tuple_of) (defScope s_is_tuple_of) .none kV_is_tuple_of dc_is_tuple_of pm_is_tuple_of_ an_is_tuple_of cd_is_tuple_of ct_is_tuple_of), sl_is_tuple_of⟩)
    (c_is_tuple_of : PySem.W.codeIn K cd_is_tuple_of "is_tuple_of" = true)
    (k_is_tuple_of : PySem.W.keepIn K (.ref f_is_tuple_of) = true)
    (a_is_begin : PySem.W.nsIn K mainGlobals "is_begin" = some (some (.ref f_is_begin)))
    (l_is_begin : K.lookup f_is_begin = some ⟨oc_is_begin, od_is_begin, .func (PySem.W.fnOf "is_begin" "is_begin" (defArgs s_is_begin) (defBody s_is_begin) (defScope s_is_begin) .none kV_is_begin dc_is_begin pm_is_begin_ an_is_begin cd_is_begin ct_is_begin), sl_is_begin⟩)
    (c_is_begin : PySem.W.codeIn K cd_is_begin "is_begin" = true)
    (k_is_begin : PySem.W.keepIn K (.ref f_is_begin) = true)
    (a_are_delays : PySem.W.nsIn K mainGlobals "are_delays" = some (some (.ref f_are_delays)))
    (l_are_delays : K.lookup f_are_delays = some ⟨oc_are_delays, od_are_delays, .func (PySem.W.fnOf "are_delays" "are_delays" (defArgs s_are_delays) (defBody s_are_delays) (defScope s_are_delays) .none kV_are_delays dc_are_delays pm_are_delays_ an_are_delays cd_are_delays ct_are_delays), sl_are_delays⟩)
    (c_are_delays : PySem.W.codeIn K cd_are_delays "are_delays" = true)
    (k_are_delays : PySem.W.keepIn K (.ref f_are_delays) = true)
    (a_is_box : PySem.W.nsIn K mainGlobals "is_box" = some (some (.ref f_is_box)))
    (l_is_box : K.lookup f_is_box = some ⟨oc_is_box, od_is_box, .func (PySem.W.fnOf "is_box" "is_box" (defArgs s_is_box) (defBody s_is_box) (defScope s_is_box) .none kV_is_box dc_is_box pm_is_box_ an_is_box cd_is_box ct_is_box), sl_is_box⟩)
    (c_is_box : PySem.W.codeIn K cd_is_box "is_box" = true)
    (k_is_box : PySem.W.keepIn K (.ref f_is_box) = true)
    (a_check_ways : PySem.W.nsIn K mainGlobals "check_ways" = some (some (.ref f_check_ways)))
    (l_check_ways : K.lookup f_check_ways = some ⟨oc_check_ways, od_check_ways, .func (PySem.W.fnOf "check_ways" "check_ways" (defArgs s_check_ways) (defBody s_check_ways) (defScope s_check_ways) .none kV_check_ways dc_check_ways pm_check_ways_ an_check_ways cd_check_ways ct_check_ways), sl_check_ways⟩)
    (c_check_ways : PySem.W.codeIn K cd_check_ways "check_ways" = true)
    (k_check_ways : PySem.W.keepIn K (.ref f_check_ways) = true)
    (a_check_silent : PySem.W.nsIn K mainGlobals "check_silent" = some (some (.ref f_check_silent)))
    (l_check_silent : K.lookup f_check_silent = some ⟨oc_check_silent, od_check_silent, .func (PySem.W.fnOf "check_silent" "check_silent" (defArgs s_check_silent) (defBody s_check_silent) (defScope s_check_silent) .none kV_check_silent dc_check_silent pm_check_silent_ an_check_silent cd_check_silent ct_check_silent), sl_check_silent⟩)
    (c_check_silent : PySem.W.codeIn K cd_check_silent "check_silent" = true)
    (k_check_silent : PySem.W.keepIn K (.ref f_check_silent) = true)
    (a_check_way : PySem.W.nsIn K mainGlobals "check_way" = some (some (.ref f_check_way)))
    (l_check_way : K.lookup f_check_way = some ⟨oc_check_way, od_check_way, .func (PySem.W.fnOf "check_way" "check_way" (defArgs s_check_way) (defBody s_check_way) (defScope s_check_way) .none kV_check_way dc_check_way pm_check_way_ an_check_way cd_check_way ct_check_way), sl_check_way⟩)
    (c_check_way : PySem.W.codeIn K cd_check_way "check_way" = true)
    (k_check_way : PySem.W.keepIn K (.ref f_check_way) = true)
    (a_check_win : PySem.W.nsIn K mainGlobals "check_win" = some (some (.ref f_check_win)))
    (l_check_win : K.lookup f_check_win = some ⟨oc_check_win, od_check_win, .func (PySem.W.fnOf "check_win" "check_win" (defArgs s_check_win) (defBody s_check_win) (defScope s_check_win) .none kV_check_win dc_check_win pm_check_win_ an_check_win cd_check_win ct_check_win), sl_check_win⟩)
    (c_check_win : PySem.W.codeIn K cd_check_win "check_win" = true)
    (k_check_win : PySem.W.keepIn K (.ref f_check_win) = true)
    (a_win_run : PySem.W.nsIn K mainGlobals "win_run" = some (some (.ref f_win_run)))
    (l_win_run : K.lookup f_win_run = some ⟨oc_win_run, od_win_run, .func (PySem.W.fnOf "win_run" "win_run" (defArgs s_win_run) (defBody s_win_run) (defScope s_win_run) .none kV_win_run dc_win_run pm_win_run_ an_win_run cd_win_run ct_win_run), sl_win_run⟩)
    (c_win_run : PySem.W.codeIn K cd_win_run "win_run" = true)
    (k_win_run : PySem.W.keepIn K (.ref f_win_run) = true)
    (a_silent_after : PySem.W.nsIn K mainGlobals "silent_after" = some (some (.ref f_silent_after)))
    (l_silent_after : K.lookup f_silent_after = some ⟨oc_silent_after, od_silent_after, .func (PySem.W.fnOf "silent_after" "silent_after" (defArgs s_silent_after) (defBody s_silent_after) (defScope s_silent_after) .none kV_silent_after dc_silent_after pm_silent_after_ an_silent_after cd_silent_after ct_silent_after), sl_silent_after⟩)
    (c_silent_after : PySem.W.codeIn K cd_silent_after "silent_after" = true)
    (k_silent_after : PySem.W.keepIn K (.ref f_silent_after) = true)
    (a_win_paper : PySem.W.nsIn K mainGlobals "win_paper" = some (some (.ref f_win_paper)))
    (l_win_paper : K.lookup f_win_paper = some ⟨oc_win_paper, od_win_paper, .func (PySem.W.fnOf "win_paper" "win_paper" (defArgs s_win_paper) (defBody s_win_paper) (defScope s_win_paper) .none kV_win_paper dc_win_paper pm_win_paper_ an_win_paper cd_win_paper ct_win_paper), sl_win_paper⟩)
    (c_win_paper : PySem.W.codeIn K cd_win_paper "win_paper" = true)
    (k_win_paper : PySem.W.keepIn K (.ref f_win_paper) = true)
    (a__law_draw : PySem.W.nsIn K mainGlobals "_law_draw" = some (some (.ref f__law_draw)))
    (l__law_draw : K.lookup f__law_draw = some ⟨oc__law_draw, od__law_draw, .func (PySem.W.fnOf "_law_draw" "_law_draw" (defArgs s__law_draw) (defBody s__law_draw) (defScope s__law_draw) .none kV__law_draw dc__law_draw pm__law_draw_ an__law_draw cd__law_draw ct__law_draw), sl__law_draw⟩)
    (c__law_draw : PySem.W.codeIn K cd__law_draw "_law_draw" = true)
    (k__law_draw : PySem.W.keepIn K (.ref f__law_draw) = true)
    (a__law_way : PySem.W.nsIn K mainGlobals "_law_way" = some (some (.ref f__law_way)))
    (l__law_way : K.lookup f__law_way = some ⟨oc__law_way, od__law_way, .func (PySem.W.fnOf "_law_way" "_law_way" (defArgs s__law_way) (defBody s__law_way) (defScope s__law_way) .none kV__law_way dc__law_way pm__law_way_ an__law_way cd__law_way ct__law_way), sl__law_way⟩)
    (c__law_way : PySem.W.codeIn K cd__law_way "_law_way" = true)
    (k__law_way : PySem.W.keepIn K (.ref f__law_way) = true)
    (a__law_ways : PySem.W.nsIn K mainGlobals "_law_ways" = some (some (.ref f__law_ways)))
    (l__law_ways : K.lookup f__law_ways = some ⟨oc__law_ways, od__law_ways, .func (PySem.W.fnOf "_law_ways" "_law_ways" (defArgs s__law_ways) (defBody s__law_ways) (defScope s__law_ways) .none kV__law_ways dc__law_ways pm__law_ways_ an__law_ways cd__law_ways ct__law_ways), sl__law_ways⟩)
    (c__law_ways : PySem.W.codeIn K cd__law_ways "_law_ways" = true)
    (k__law_ways : PySem.W.keepIn K (.ref f__law_ways) = true)
    (a__law_made : PySem.W.nsIn K mainGlobals "_law_made" = some (some (.ref f__law_made)))
    (l__law_made : K.lookup f__law_made = some ⟨oc__law_made, od__law_made, .func (PySem.W.fnOf "_law_made" "_law_made" (defArgs s__law_made) (defBody s__law_made) (defScope s__law_made) .none kV__law_made dc__law_made pm__law_made_ an__law_made cd__law_made ct__law_made), sl__law_made⟩)
    (c__law_made : PySem.W.codeIn K cd__law_made "_law_made" = true)
    (k__law_made : PySem.W.keepIn K (.ref f__law_made) = true)
    (a__law_called : PySem.W.nsIn K mainGlobals "_law_called" = some (some (.ref f__law_called)))
    (l__law_called : K.lookup f__law_called = some ⟨oc__law_called, od__law_called, .func (PySem.W.fnOf "_law_called" "_law_called" (defArgs s__law_called) (defBody s__law_called) (defScope s__law_called) .none kV__law_called dc__law_called pm__law_called_ an__law_called cd__law_called ct__law_called), sl__law_called⟩)
    (c__law_called : PySem.W.codeIn K cd__law_called "_law_called" = true)
    (k__law_called : PySem.W.keepIn K (.ref f__law_called) = true)
    (a__law_refused : PySem.W.nsIn K mainGlobals "_law_refused" = some (some (.ref f__law_refused)))
    (l__law_refused : K.lookup f__law_refused = some ⟨oc__law_refused, od__law_refused, .func (PySem.W.fnOf "_law_refused" "_law_refused" (defArgs s__law_refused) (defBody s__law_refused) (defScope s__law_refused) .none kV__law_refused dc__law_refused pm__law_refused_ an__law_refused cd__law_refused ct__law_refused), sl__law_refused⟩)
    (c__law_refused : PySem.W.codeIn K cd__law_refused "_law_refused" = true)
    (k__law_refused : PySem.W.keepIn K (.ref f__law_refused) = true)
    (a__law_ways_refused : PySem.W.nsIn K mainGlobals "_law_ways_refused" = some (some (.ref f__law_ways_refused)))
    (l__law_ways_refused : K.lookup f__law_ways_refused = some ⟨oc__law_ways_refused, od__law_ways_refused, .func (PySem.W.fnOf "_law_ways_refused" "_law_ways_refused" (defArgs s__law_ways_refused) (defBody s__law_ways_refused) (defScope s__law_ways_refused) .none kV__law_ways_refused dc__law_ways_refused pm__law_ways_refused_ an__law_ways_refused cd__law_ways_refused ct__law_ways_refused), sl__law_ways_refused⟩)
    (c__law_ways_refused : PySem.W.codeIn K cd__law_ways_refused "_law_ways_refused" = true)
    (k__law_ways_refused : PySem.W.keepIn K (.ref f__law_ways_refused) = true)
    (a_law : PySem.W.nsIn K mainGlobals "law" = some (some (.ref f_law)))
    (l_law : K.lookup f_law = some ⟨oc_law, od_law, .func (PySem.W.fnOf "law" "law" (defArgs s_law) (defBody s_law) (defScope s_law) .none kV_law dc_law pm_law_ an_law cd_law ct_law), sl_law⟩)
    (c_law : PySem.W.codeIn K cd_law "law" = true)
    (k_law : PySem.W.keepIn K (.ref f_law) = true)
    (a_BadPart_init : PySem.W.findIn K (.ref ABadPart) "__init__" = some (some (.ref f_BadPart_init)))
    (i_BadPart_init : PySem.W.typeIn K (.ref f_BadPart_init) = some (.type "function"))
    (l_BadPart_init : K.lookup f_BadPart_init = some ⟨oc_BadPart_init, od_BadPart_init, .func (PySem.W.fnOf "__init__" "BadPart.__init__" (defArgs s_BadPart_init) (defBody s_BadPart_init) (defScope s_BadPart_init) .none kV_BadPart_init dc_BadPart_init pm_BadPart_init_ an_BadPart_init cd_BadPart_init ct_BadPart_init), sl_BadPart_init⟩)
    (c_BadPart_init : PySem.W.codeIn K cd_BadPart_init "BadPart.__init__" = true)
    (k_BadPart_init : PySem.W.keepIn K (.ref f_BadPart_init) = true)
    (a_BadBox_init : PySem.W.findIn K (.ref ABadBox) "__init__" = some (some (.ref f_BadBox_init)))
    (i_BadBox_init : PySem.W.typeIn K (.ref f_BadBox_init) = some (.type "function"))
    (l_BadBox_init : K.lookup f_BadBox_init = some ⟨oc_BadBox_init, od_BadBox_init, .func (PySem.W.fnOf "__init__" "BadBox.__init__" (defArgs s_BadBox_init) (defBody s_BadBox_init) (defScope s_BadBox_init) .none kV_BadBox_init dc_BadBox_init pm_BadBox_init_ an_BadBox_init cd_BadBox_init ct_BadBox_init), sl_BadBox_init⟩)
    (c_BadBox_init : PySem.W.codeIn K cd_BadBox_init "BadBox.__init__" = true)
    (k_BadBox_init : PySem.W.keepIn K (.ref f_BadBox_init) = true)
    (a_NoWay_init : PySem.W.findIn K (.ref ANoWay) "__init__" = some (some (.ref f_NoWay_init)))
    (i_NoWay_init : PySem.W.typeIn K (.ref f_NoWay_init) = some (.type "function"))
    (l_NoWay_init : K.lookup f_NoWay_init = some ⟨oc_NoWay_init, od_NoWay_init, .func (PySem.W.fnOf "__init__" "NoWay.__init__" (defArgs s_NoWay_init) (defBody s_NoWay_init) (defScope s_NoWay_init) .none kV_NoWay_init dc_NoWay_init pm_NoWay_init_ an_NoWay_init cd_NoWay_init ct_NoWay_init), sl_NoWay_init⟩)
    (c_NoWay_init : PySem.W.codeIn K cd_NoWay_init "NoWay.__init__" = true)
    (k_NoWay_init : PySem.W.keepIn K (.ref f_NoWay_init) = true)
    (a_Way_init : PySem.W.findIn K (.ref AWay) "__init__" = some (some (.ref f_Way_init)))
    (i_Way_init : PySem.W.isFn K (.ref f_Way_init) = true)
    (l_Way_init : K.lookup f_Way_init = some ⟨oc_Way_init, od_Way_init, .func (PySem.W.fnOf "__init__" "Way.__init__" (defArgs s_Way_init) (defBody s_Way_init) (defScope s_Way_init) (.ref Td) kV_Way_init dc_Way_init pm_Way_init_ an_Way_init cd_Way_init ct_Way_init), sl_Way_init⟩)
    (c_Way_init : PySem.W.codeIn K cd_Way_init "Way.__init__" = true)
    (k_Way_init : PySem.W.keepIn K (.ref f_Way_init) = true)
    (a_Way_eq : PySem.W.findIn K (.ref AWay) "__eq__" = some (some (.ref f_Way_eq)))
    (i_Way_eq : PySem.W.isFn K (.ref f_Way_eq) = true)
    (l_Way_eq : K.lookup f_Way_eq = some ⟨oc_Way_eq, od_Way_eq, .func (PySem.W.fnOf "__eq__" "Way.__eq__" (defArgs s_Way_eq) (defBody s_Way_eq) (defScope s_Way_eq) .none kV_Way_eq dc_Way_eq pm_Way_eq_ an_Way_eq cd_Way_eq ct_Way_eq), sl_Way_eq⟩)
    (c_Way_eq : PySem.W.codeIn K cd_Way_eq "Way.__eq__" = true)
    (k_Way_eq : PySem.W.keepIn K (.ref f_Way_eq) = true)
    (a_Race_init : PySem.W.findIn K (.ref ARace) "__init__" = some (some (.ref f_Race_init)))
    (i_Race_init : PySem.W.isFn K (.ref f_Race_init) = true)
    (l_Race_init : K.lookup f_Race_init = some ⟨oc_Race_init, od_Race_init, .func (PySem.W.fnOf "__init__" "Race.__init__" (defArgs s_Race_init) (defBody s_Race_init) (defScope s_Race_init) .none kV_Race_init dc_Race_init pm_Race_init_ an_Race_init cd_Race_init ct_Race_init), sl_Race_init⟩)
    (c_Race_init : PySem.W.codeIn K cd_Race_init "Race.__init__" = true)
    (k_Race_init : PySem.W.keepIn K (.ref f_Race_init) = true)
    (a_Race_planned : PySem.W.findIn K (.ref ARace) "planned" = some (some (.ref f_Race_planned)))
    (i_Race_planned : PySem.W.isFn K (.ref f_Race_planned) = true)
    (l_Race_planned : K.lookup f_Race_planned = some ⟨oc_Race_planned, od_Race_planned, .func (PySem.W.fnOf "planned" "Race.planned" (defArgs s_Race_planned) (defBody s_Race_planned) (defScope s_Race_planned) .none kV_Race_planned dc_Race_planned pm_Race_planned_ an_Race_planned cd_Race_planned ct_Race_planned), sl_Race_planned⟩)
    (c_Race_planned : PySem.W.codeIn K cd_Race_planned "Race.planned" = true)
    (k_Race_planned : PySem.W.keepIn K (.ref f_Race_planned) = true)
    (a_Race_hurried : PySem.W.findIn K (.ref ARace) "hurried" = some (some (.ref f_Race_hurried)))
    (i_Race_hurried : PySem.W.isFn K (.ref f_Race_hurried) = true)
    (l_Race_hurried : K.lookup f_Race_hurried = some ⟨oc_Race_hurried, od_Race_hurried, .func (PySem.W.fnOf "hurried" "Race.hurried" (defArgs s_Race_hurried) (defBody s_Race_hurried) (defScope s_Race_hurried) .none kV_Race_hurried dc_Race_hurried pm_Race_hurried_ an_Race_hurried cd_Race_hurried ct_Race_hurried), sl_Race_hurried⟩)
    (c_Race_hurried : PySem.W.codeIn K cd_Race_hurried "Race.hurried" = true)
    (k_Race_hurried : PySem.W.keepIn K (.ref f_Race_hurried) = true)
    (a_Race_can_win : PySem.W.findIn K (.ref ARace) "can_win" = some (some (.ref f_Race_can_win)))
    (i_Race_can_win : PySem.W.isFn K (.ref f_Race_can_win) = true)
    (l_Race_can_win : K.lookup f_Race_can_win = some ⟨oc_Race_can_win, od_Race_can_win, .func (PySem.W.fnOf "can_win" "Race.can_win" (defArgs s_Race_can_win) (defBody s_Race_can_win) (defScope s_Race_can_win) .none kV_Race_can_win dc_Race_can_win pm_Race_can_win_ an_Race_can_win cd_Race_can_win ct_Race_can_win), sl_Race_can_win⟩)
    (c_Race_can_win : PySem.W.codeIn K cd_Race_can_win "Race.can_win" = true)
    (k_Race_can_win : PySem.W.keepIn K (.ref f_Race_can_win) = true)
    (a_Race_last_win : PySem.W.findIn K (.ref ARace) "last_win" = some (some (.ref f_Race_last_win)))
    (i_Race_last_win : PySem.W.isFn K (.ref f_Race_last_win) = true)
    (l_Race_last_win : K.lookup f_Race_last_win = some ⟨oc_Race_last_win, od_Race_last_win, .func (PySem.W.fnOf "last_win" "Race.last_win" (defArgs s_Race_last_win) (defBody s_Race_last_win) (defScope s_Race_last_win) .none kV_Race_last_win dc_Race_last_win pm_Race_last_win_ an_Race_last_win cd_Race_last_win ct_Race_last_win), sl_Race_last_win⟩)
    (c_Race_last_win : PySem.W.codeIn K cd_Race_last_win "Race.last_win" = true)
    (k_Race_last_win : PySem.W.keepIn K (.ref f_Race_last_win) = true)
    (a_Race_eq : PySem.W.findIn K (.ref ARace) "__eq__" = some (some (.ref f_Race_eq)))
    (i_Race_eq : PySem.W.isFn K (.ref f_Race_eq) = true)
    (l_Race_eq : K.lookup f_Race_eq = some ⟨oc_Race_eq, od_Race_eq, .func (PySem.W.fnOf "__eq__" "Race.__eq__" (defArgs s_Race_eq) (defBody s_Race_eq) (defScope s_Race_eq) .none kV_Race_eq dc_Race_eq pm_Race_eq_ an_Race_eq cd_Race_eq ct_Race_eq), sl_Race_eq⟩)
    (c_Race_eq : PySem.W.codeIn K cd_Race_eq "Race.__eq__" = true)
    (k_Race_eq : PySem.W.keepIn K (.ref f_Race_eq) = true)
    (d_T : K.lookup Td = some ⟨dcl, ddt, .seq #[.ref AT0] dn, dsl⟩)
    (d_0 : K.lookup AT0 = some ⟨.type "tuple", edt, .seq #[] en, esl⟩)
    (n_isinstance : PySem.W.nsIn K mainGlobals "isinstance" = some none)
    (n_int : PySem.W.nsIn K mainGlobals "int" = some none)
    (n_bool : PySem.W.nsIn K mainGlobals "bool" = some none)
    (n_list : PySem.W.nsIn K mainGlobals "list" = some none)
    (n_tuple : PySem.W.nsIn K mainGlobals "tuple" = some none)
    (n_len : PySem.W.nsIn K mainGlobals "len" = some none)
    (n_range : PySem.W.nsIn K mainGlobals "range" = some none)
    (n_max : PySem.W.nsIn K mainGlobals "max" = some none)
    (n_enumerate : PySem.W.nsIn K mainGlobals "enumerate" = some none)
    (n_all : PySem.W.nsIn K mainGlobals "all" = some none)
    (v_MOST_BEGIN : PySem.W.nsIn K mainGlobals "MOST_BEGIN" = some (some (.int 1000 t_MOST_BEGIN)))
    (v_MOST_DELAY : PySem.W.nsIn K mainGlobals "MOST_DELAY" = some (some (.int 50 t_MOST_DELAY)))
    (v_MOST_BOXES : PySem.W.nsIn K mainGlobals "MOST_BOXES" = some (some (.int 3 t_MOST_BOXES)))
    (v_MOST_KEEP : PySem.W.nsIn K mainGlobals "MOST_KEEP" = some (some (.int 10000 t_MOST_KEEP)))
    (v_MOST_WAYS : PySem.W.nsIn K mainGlobals "MOST_WAYS" = some (some (.int 4 t_MOST_WAYS)))
    (v_MOST_SILENT : PySem.W.nsIn K mainGlobals "MOST_SILENT" = some (some (.int 3 t_MOST_SILENT)))
    (s_hn : PySem.W.specialIn K (.builtin "object.__class__") "__get__" = some (some (.builtin "getset_descriptor.__get__")))
    (s_tk : PySem.W.takesIn K (.builtin "object.__class__") = some true)
    (pg_Way : PySem.W.plainGet K AWay Str.empty = true)
    (hd_Way : PySem.W.hasDictIn K AWay = true)
    (po_Way : PySem.W.plainOver K AWay = true)
    (sa_Way : PySem.W.findIn K (.ref AWay) "__setattr__" = some (some (.builtin "object.__setattr__")))
    (ha_Way : PySem.W.findIn K (.ref AWay) "__class__" = some (some (.builtin "object.__class__")))
    (hm_Way : PySem.W.mroIn K AWay (.type "object") = some true)
    (ne_Way : PySem.W.findIn K (.ref AWay) "__ne__" = some (some (.builtin "object.__ne__")))
    (is_Way : PySem.W.isClsIn K AWay = true)
    (ty_Way : PySem.W.typeIn K (.ref AWay) = some (.type "type"))
    (tup_Way : PySem.W.subIn K (.ref AWay) (.type "tuple") = some false)
    (lst_Way : PySem.W.subIn K (.ref AWay) (.type "list") = some false)
    (int_Way : PySem.W.subIn K (.ref AWay) (.type "int") = some false)
    (str_Way : PySem.W.subIn K (.ref AWay) (.type "str") = some false)
    (mk_Way : PySem.W.makesIn K AWay = true)
    (kc_Way : PySem.W.keepIn K (.ref AWay) = true)
    (na_Way_begin : PySem.W.findIn K (.ref AWay) "begin" = some none)
    (na_Way_least : PySem.W.findIn K (.ref AWay) "least" = some none)
    (na_Way_most : PySem.W.findIn K (.ref AWay) "most" = some none)
    (na_Way_boxes : PySem.W.findIn K (.ref AWay) "boxes" = some none)
    (pg_Race : PySem.W.plainGet K ARace Str.empty = true)
    (hd_Race : PySem.W.hasDictIn K ARace = true)
    (po_Race : PySem.W.plainOver K ARace = true)
    (sa_Race : PySem.W.findIn K (.ref ARace) "__setattr__" = some (some (.builtin "object.__setattr__")))
    (ha_Race : PySem.W.findIn K (.ref ARace) "__class__" = some (some (.builtin "object.__class__")))
    (hm_Race : PySem.W.mroIn K ARace (.type "object") = some true)
    (ne_Race : PySem.W.findIn K (.ref ARace) "__ne__" = some (some (.builtin "object.__ne__")))
    (is_Race : PySem.W.isClsIn K ARace = true)
    (ty_Race : PySem.W.typeIn K (.ref ARace) = some (.type "type"))
    (tup_Race : PySem.W.subIn K (.ref ARace) (.type "tuple") = some false)
    (lst_Race : PySem.W.subIn K (.ref ARace) (.type "list") = some false)
    (int_Race : PySem.W.subIn K (.ref ARace) (.type "int") = some false)
    (str_Race : PySem.W.subIn K (.ref ARace) (.type "str") = some false)
    (mk_Race : PySem.W.makesIn K ARace = true)
    (kc_Race : PySem.W.keepIn K (.ref ARace) = true)
    (na_Race_ways : PySem.W.findIn K (.ref ARace) "ways" = some none)
    (na_Race_silent : PySem.W.findIn K (.ref ARace) "silent" = some none)
    (xBadPart_L : K.lookup ABadPart = some (excClassObj xBadPart_nm xBadPart_q ABadPart xBadPart_N xBadPart_bs [.ref AWholeError, .type "ValueError", .type "Exception", .type "BaseException", .type "object"] true xBadPart_sn xBadPart_sub xBadPart_ab xBadPart_col xBadPart_dd xBadPart_m0 xBadPart_m1 xBadPart_m2 xBadPart_m3 xBadPart_m5 "ValueError.__new__"))
    (xBadPart_sa : PySem.W.findIn K (.ref ABadPart) "__setattr__" = some (some (.builtin "object.__setattr__")))
    (xBadPart_ex : PySem.W.subIn K (.ref ABadPart) (.type "BaseException") = some true)
    (xBadPart_ty : PySem.W.typeIn K (.ref ABadPart) = some (.type "type"))
    (xBadPart_kC : PySem.W.keepIn K (.ref ABadPart) = true)
    (xBadPart_noA : PySem.W.findIn K (.ref ABadPart) "part" = some none)
    (xBadPart_hg : PySem.W.findIn K (.ref ABadPart) "__getattribute__" = some (some (.builtin "BaseException.__getattribute__")))
    (xBadPart_hk : PySem.W.findIn K (.ref ABadPart) "__getattr__" = some none)
    (xBadPart_hd : PySem.W.hasDictIn K ABadPart = true)
    (xBadPart_ha : PySem.W.findIn K (.ref ABadPart) "__class__" = some (some (.builtin "object.__class__")))
    (xBadPart_hm : PySem.W.mroIn K ABadPart (.type "object") = some true)
    (xBadPart_is : PySem.W.isClsIn K ABadPart = true)
    (xBadPart_ss : PySem.W.subIn K (.ref ABadPart) (.ref ABadPart) = some true)
    (xBadPart_w : PySem.W.subIn K (.ref ABadPart) (.ref AWholeError) = some true)
    (xBadBox_L : K.lookup ABadBox = some (excClassObj xBadBox_nm xBadBox_q ABadBox xBadBox_N xBadBox_bs [.ref AWholeError, .type "ValueError", .type "Exception", .type "BaseException", .type "object"] true xBadBox_sn xBadBox_sub xBadBox_ab xBadBox_col xBadBox_dd xBadBox_m0 xBadBox_m1 xBadBox_m2 xBadBox_m3 xBadBox_m5 "ValueError.__new__"))
    (xBadBox_sa : PySem.W.findIn K (.ref ABadBox) "__setattr__" = some (some (.builtin "object.__setattr__")))
    (xBadBox_ex : PySem.W.subIn K (.ref ABadBox) (.type "BaseException") = some true)
    (xBadBox_ty : PySem.W.typeIn K (.ref ABadBox) = some (.type "type"))
    (xBadBox_kC : PySem.W.keepIn K (.ref ABadBox) = true)
    (xBadBox_noA : PySem.W.findIn K (.ref ABadBox) "index" = some none)
    (xBadBox_hg : PySem.W.findIn K (.ref ABadBox) "__getattribute__" = some (some (.builtin "BaseException.__getattribute__")))
    (xBadBox_hk : PySem.W.findIn K (.ref ABadBox) "__getattr__" = some none)
    (xBadBox_hd : PySem.W.hasDictIn K ABadBox = true)
    (xBadBox_ha : PySem.W.findIn K (.ref ABadBox) "__class__" = some (some (.builtin "object.__class__")))
    (xBadBox_hm : PySem.W.mroIn K ABadBox (.type "object") = some true)
    (xBadBox_is : PySem.W.isClsIn K ABadBox = true)
    (xBadBox_ss : PySem.W.subIn K (.ref ABadBox) (.ref ABadBox) = some true)
    (xBadBox_w : PySem.W.subIn K (.ref ABadBox) (.ref AWholeError) = some true)
    (xNoWay_L : K.lookup ANoWay = some (excClassObj xNoWay_nm xNoWay_q ANoWay xNoWay_N xNoWay_bs [.ref AWholeError, .type "ValueError", .type "Exception", .type "BaseException", .type "object"] true xNoWay_sn xNoWay_sub xNoWay_ab xNoWay_col xNoWay_dd xNoWay_m0 xNoWay_m1 xNoWay_m2 xNoWay_m3 xNoWay_m5 "ValueError.__new__"))
    (xNoWay_sa : PySem.W.findIn K (.ref ANoWay) "__setattr__" = some (some (.builtin "object.__setattr__")))
    (xNoWay_ex : PySem.W.subIn K (.ref ANoWay) (.type "BaseException") = some true)
    (xNoWay_ty : PySem.W.typeIn K (.ref ANoWay) = some (.type "type"))
    (xNoWay_kC : PySem.W.keepIn K (.ref ANoWay) = true)
    (xNoWay_noA : PySem.W.findIn K (.ref ANoWay) "way" = some none)
    (xNoWay_hg : PySem.W.findIn K (.ref ANoWay) "__getattribute__" = some (some (.builtin "BaseException.__getattribute__")))
    (xNoWay_hk : PySem.W.findIn K (.ref ANoWay) "__getattr__" = some none)
    (xNoWay_hd : PySem.W.hasDictIn K ANoWay = true)
    (xNoWay_ha : PySem.W.findIn K (.ref ANoWay) "__class__" = some (some (.builtin "object.__class__")))
    (xNoWay_hm : PySem.W.mroIn K ANoWay (.type "object") = some true)
    (xNoWay_is : PySem.W.isClsIn K ANoWay = true)
    (xNoWay_ss : PySem.W.subIn K (.ref ANoWay) (.ref ANoWay) = some true)
    (xNoWay_w : PySem.W.subIn K (.ref ANoWay) (.ref AWholeError) = some true)
    (xw_i : PySem.W.isClsIn K AWholeError = true)
    (xw_t : PySem.W.typeIn K (.ref AWholeError) = some (.type "type"))
    (xw_b : PySem.W.subIn K (.ref AWholeError) (.type "BaseException") = some true)
    : ∃ fd : FuncData, (∀ (s : Shared) (v : Value), BindsTo s fd ⟨[v], []⟩ [("_law_script", v)]) ∧ ∀ base : Heap, K.In base → base.Ns mainGlobals mg → FnOk P w K mg base CX0 14 fa fd ["_law_script"] (spLaw K) := by
  have e := hfa.symm.trans (PySem.W.mg_of X G a_law)
  cases e
  have F_is_integer := fun_mk (st := s_is_integer) l_is_integer c_is_integer k_is_integer
  have D_is_integer : DefAt K mg "is_integer" s_is_integer pm_is_integer := ⟨_, _, F_is_integer, PySem.W.mg_of X G a_is_integer, F_is_integer.binds (ps := pm_is_integer) fun _ _ _ _ _ _ us hl => match us, hl with | [_], _ => rfl⟩
  have F_is_between := fun_mk (st := s_is_between) l_is_between c_is_between k_is_between
  have D_is_between : DefAt K mg "is_between" s_is_between pm_is_between := ⟨_, _, F_is_between, PySem.W.mg_of X G a_is_between, F_is_between.binds (ps := pm_is_between) fun _ _ _ _ _ _ us hl => match us, hl with | [_, _, _], _ => rfl⟩
  have F_is_index := fun_mk (st := s_is_index) l_is_index c_is_index k_is_index
  have D_is_index : DefAt K mg "is_index" s_is_index pm_is_index := ⟨_, _, F_is_index, PySem.W.mg_of X G a_is_index, F_is_index.binds (ps := pm_is_index) fun _ _ _ _ _ _ us hl => match us, hl with | [_, _], _ => rfl⟩
  have F_is_list := fun_mk (st := s_is_list) l_is_list c_is_list k_is_list
  have D_is_list : DefAt K mg "is_list" s_is_list pm_is_list := ⟨_, _, F_is_list, PySem.W.mg_of X G a_is_list, F_is_list.binds (ps := pm_is_list) fun _ _ _ _ _ _ us hl => match us, hl with | [_], _ => rfl⟩
  have F_is_list_of := fun_mk (st := s_is_list_of) l_is_list_of c_is_list_of k_is_list_of
  have D_is_list_of : DefAt K mg "is_list_of" s_is_list_of pm_is_list_of := ⟨_, _, F_is_list_of, PySem.W.mg_of X G a_is_list_of, F_is_list_of.binds (ps := pm_is_list_of) fun _ _ _ _ _ _ us hl => match us, hl with | [_, _, _], _ => rfl⟩
  have F_is_tuple_of := fun_mk (st := s_is_tuple_of) l_is_tuple_of c_is_tuple_of k_is_tuple_of
  have D_is_tuple_of : DefAt K mg "is_tuple_of" s_is_tuple_of pm_is_tuple_of := ⟨_, _, F_is_tuple_of, PySem.W.mg_of X G a_is_tuple_of, F_is_tuple_of.binds (ps := pm_is_tuple_of) fun _ _ _ _ _ _ us hl => match us, hl with | [_, _], _ => rfl⟩
  have F_is_begin := fun_mk (st := s_is_begin) l_is_begin c_is_begin k_is_begin
  have D_is_begin : DefAt K mg "is_begin" s_is_begin pm_is_begin := ⟨_, _, F_is_begin, PySem.W.mg_of X G a_is_begin, F_is_begin.binds (ps := pm_is_begin) fun _ _ _ _ _ _ us hl => match us, hl with | [_], _ => rfl⟩
  have F_are_delays := fun_mk (st := s_are_delays) l_are_delays c_are_delays k_are_delays
  have D_are_delays : DefAt K mg "are_delays" s_are_delays pm_are_delays := ⟨_, _, F_are_delays, PySem.W.mg_of X G a_are_delays, F_are_delays.binds (ps := pm_are_delays) fun _ _ _ _ _ _ us hl => match us, hl with | [_, _], _ => rfl⟩
  have F_is_box := fun_mk (st := s_is_box) l_is_box c_is_box k_is_box
  have D_is_box : DefAt K mg "is_box" s_is_box pm_is_box := ⟨_, _, F_is_box, PySem.W.mg_of X G a_is_box, F_is_box.binds (ps := pm_is_box) fun _ _ _ _ _ _ us hl => match us, hl with | [_, _, _], _ => rfl⟩
  have F_check_ways := fun_mk (st := s_check_ways) l_check_ways c_check_ways k_check_ways
  have D_check_ways : DefAt K mg "check_ways" s_check_ways pm_check_ways := ⟨_, _, F_check_ways, PySem.W.mg_of X G a_check_ways, F_check_ways.binds (ps := pm_check_ways) fun _ _ _ _ _ _ us hl => match us, hl with | [_], _ => rfl⟩
  have F_check_silent := fun_mk (st := s_check_silent) l_check_silent c_check_silent k_check_silent
  have D_check_silent : DefAt K mg "check_silent" s_check_silent pm_check_silent := ⟨_, _, F_check_silent, PySem.W.mg_of X G a_check_silent, F_check_silent.binds (ps := pm_check_silent) fun _ _ _ _ _ _ us hl => match us, hl with | [_], _ => rfl⟩
  have F_check_way := fun_mk (st := s_check_way) l_check_way c_check_way k_check_way
  have D_check_way : DefAt K mg "check_way" s_check_way pm_check_way := ⟨_, _, F_check_way, PySem.W.mg_of X G a_check_way, F_check_way.binds (ps := pm_check_way) fun _ _ _ _ _ _ us hl => match us, hl with | [_, _], _ => rfl⟩
  have F_check_win := fun_mk (st := s_check_win) l_check_win c_check_win k_check_win
  have D_check_win : DefAt K mg "check_win" s_check_win pm_check_win := ⟨_, _, F_check_win, PySem.W.mg_of X G a_check_win, F_check_win.binds (ps := pm_check_win) fun _ _ _ _ _ _ us hl => match us, hl with | [_, _, _], _ => rfl⟩
  have F_win_run := fun_mk (st := s_win_run) l_win_run c_win_run k_win_run
  have D_win_run : DefAt K mg "win_run" s_win_run pm_win_run := ⟨_, _, F_win_run, PySem.W.mg_of X G a_win_run, F_win_run.binds (ps := pm_win_run) fun _ _ _ _ _ _ us hl => match us, hl with | [_, _, _], _ => rfl⟩
  have F_silent_after := fun_mk (st := s_silent_after) l_silent_after c_silent_after k_silent_after
  have D_silent_after : DefAt K mg "silent_after" s_silent_after pm_silent_after := ⟨_, _, F_silent_after, PySem.W.mg_of X G a_silent_after, F_silent_after.binds (ps := pm_silent_after) fun _ _ _ _ _ _ us hl => match us, hl with | [_, _, _], _ => rfl⟩
  have F_win_paper := fun_mk (st := s_win_paper) l_win_paper c_win_paper k_win_paper
  have D_win_paper : DefAt K mg "win_paper" s_win_paper pm_win_paper := ⟨_, _, F_win_paper, PySem.W.mg_of X G a_win_paper, F_win_paper.binds (ps := pm_win_paper) fun _ _ _ _ _ _ us hl => match us, hl with | [_, _, _], _ => rfl⟩
  have F__law_draw := fun_mk (st := s__law_draw) l__law_draw c__law_draw k__law_draw
  have D__law_draw : DefAt K mg "_law_draw" s__law_draw pm__law_draw := ⟨_, _, F__law_draw, PySem.W.mg_of X G a__law_draw, F__law_draw.binds (ps := pm__law_draw) fun _ _ _ _ _ _ us hl => match us, hl with | [_, _], _ => rfl⟩
  have F__law_way := fun_mk (st := s__law_way) l__law_way c__law_way k__law_way
  have D__law_way : DefAt K mg "_law_way" s__law_way pm__law_way := ⟨_, _, F__law_way, PySem.W.mg_of X G a__law_way, F__law_way.binds (ps := pm__law_way) fun _ _ _ _ _ _ us hl => match us, hl with | [_], _ => rfl⟩
  have F__law_ways := fun_mk (st := s__law_ways) l__law_ways c__law_ways k__law_ways
  have D__law_ways : DefAt K mg "_law_ways" s__law_ways pm__law_ways := ⟨_, _, F__law_ways, PySem.W.mg_of X G a__law_ways, F__law_ways.binds (ps := pm__law_ways) fun _ _ _ _ _ _ us hl => match us, hl with | [_, _], _ => rfl⟩
  have F__law_made := fun_mk (st := s__law_made) l__law_made c__law_made k__law_made
  have D__law_made : DefAt K mg "_law_made" s__law_made pm__law_made := ⟨_, _, F__law_made, PySem.W.mg_of X G a__law_made, F__law_made.binds (ps := pm__law_made) fun _ _ _ _ _ _ us hl => match us, hl with | [_], _ => rfl⟩
  have F__law_called := fun_mk (st := s__law_called) l__law_called c__law_called k__law_called
  have D__law_called : DefAt K mg "_law_called" s__law_called pm__law_called := ⟨_, _, F__law_called, PySem.W.mg_of X G a__law_called, F__law_called.binds (ps := pm__law_called) fun _ _ _ _ _ _ us hl => match us, hl with | [_, _, _], _ => rfl⟩
  have F__law_refused := fun_mk (st := s__law_refused) l__law_refused c__law_refused k__law_refused
  have D__law_refused : DefAt K mg "_law_refused" s__law_refused pm__law_refused := ⟨_, _, F__law_refused, PySem.W.mg_of X G a__law_refused, F__law_refused.binds (ps := pm__law_refused) fun _ _ _ _ _ _ us hl => match us, hl with | [_, _, _], _ => rfl⟩
  have F__law_ways_refused := fun_mk (st := s__law_ways_refused) l__law_ways_refused c__law_ways_refused k__law_ways_refused
  have D__law_ways_refused : DefAt K mg "_law_ways_refused" s__law_ways_refused pm__law_ways_refused := ⟨_, _, F__law_ways_refused, PySem.W.mg_of X G a__law_ways_refused, F__law_ways_refused.binds (ps := pm__law_ways_refused) fun _ _ _ _ _ _ us hl => match us, hl with | [_, _], _ => rfl⟩
  have F_BadPart_init := fun_mk (st := s_BadPart_init) l_BadPart_init c_BadPart_init k_BadPart_init
  have F_BadBox_init := fun_mk (st := s_BadBox_init) l_BadBox_init c_BadBox_init k_BadBox_init
  have F_NoWay_init := fun_mk (st := s_NoWay_init) l_NoWay_init c_NoWay_init k_NoWay_init
  have FI : FunD K "__init__" "Way.__init__" (defArgs s_Way_init) (defBody s_Way_init) (defScope s_Way_init) [.ref AT0] [] f_Way_init _ := ⟨⟨_, _, _, _, _, _, _, _, _, _, rfl, l_Way_init, c_Way_init, .inr ⟨(fun z => nomatch z), Td, _, [.ref AT0], dn, rfl, d_T, rfl, .cons rfl .nil⟩, .inl rfl⟩, k_Way_init⟩
  obtain ⟨d4, v4, B4⟩ := FI.binds1 (ps := pm_Way_init) 5 1 (fun z => nomatch z) rfl (fun T kV doc pm an cdv ct us its hu hi => match us, hu, its, hi with | [_, _, _, _, _], _, [_], _ => ⟨_, rfl, rfl⟩)
  obtain ⟨d3, v3, B3⟩ := FI.binds1 (ps := pm_Way_init) 4 0 (fun z => nomatch z) rfl (fun T kV doc pm an cdv ct us its hu hi => match us, hu, its, hi with | [_, _, _, _], _, [_], _ => ⟨_, rfl, rfl⟩)
  cases v4
  have F_Way_eq := fun_mk (st := s_Way_eq) l_Way_eq c_Way_eq k_Way_eq
  have M_Way_eq : MethAt K AWay "__eq__" "Way.__eq__" s_Way_eq pm_Way_eq := ⟨_, _, F_Way_eq, a_Way_eq, i_Way_eq, F_Way_eq.binds (ps := pm_Way_eq) fun _ _ _ _ _ _ us hl => match us, hl with | [_, _], _ => rfl⟩
  have F_Race_init := fun_mk (st := s_Race_init) l_Race_init c_Race_init k_Race_init
  have M_Race_init : MethAt K ARace "__init__" "Race.__init__" s_Race_init pm_Race_init := ⟨_, _, F_Race_init, a_Race_init, i_Race_init, F_Race_init.binds (ps := pm_Race_init) fun _ _ _ _ _ _ us hl => match us, hl with | [_, _, _], _ => rfl⟩
  have F_Race_planned := fun_mk (st := s_Race_planned) l_Race_planned c_Race_planned k_Race_planned
  have M_Race_planned : MethAt K ARace "planned" "Race.planned" s_Race_planned pm_Race_planned := ⟨_, _, F_Race_planned, a_Race_planned, i_Race_planned, F_Race_planned.binds (ps := pm_Race_planned) fun _ _ _ _ _ _ us hl => match us, hl with | [_], _ => rfl⟩
  have F_Race_hurried := fun_mk (st := s_Race_hurried) l_Race_hurried c_Race_hurried k_Race_hurried
  have M_Race_hurried : MethAt K ARace "hurried" "Race.hurried" s_Race_hurried pm_Race_hurried := ⟨_, _, F_Race_hurried, a_Race_hurried, i_Race_hurried, F_Race_hurried.binds (ps := pm_Race_hurried) fun _ _ _ _ _ _ us hl => match us, hl with | [_, _, _], _ => rfl⟩
  have F_Race_can_win := fun_mk (st := s_Race_can_win) l_Race_can_win c_Race_can_win k_Race_can_win
  have M_Race_can_win : MethAt K ARace "can_win" "Race.can_win" s_Race_can_win pm_Race_can_win := ⟨_, _, F_Race_can_win, a_Race_can_win, i_Race_can_win, F_Race_can_win.binds (ps := pm_Race_can_win) fun _ _ _ _ _ _ us hl => match us, hl with | [_, _, _], _ => rfl⟩
  have F_Race_last_win := fun_mk (st := s_Race_last_win) l_Race_last_win c_Race_last_win k_Race_last_win
  have M_Race_last_win : MethAt K ARace "last_win" "Race.last_win" s_Race_last_win pm_Race_last_win := ⟨_, _, F_Race_last_win, a_Race_last_win, i_Race_last_win, F_Race_last_win.binds (ps := pm_Race_last_win) fun _ _ _ _ _ _ us hl => match us, hl with | [_, _], _ => rfl⟩
  have F_Race_eq := fun_mk (st := s_Race_eq) l_Race_eq c_Race_eq k_Race_eq
  have M_Race_eq : MethAt K ARace "__eq__" "Race.__eq__" s_Race_eq pm_Race_eq := ⟨_, _, F_Race_eq, a_Race_eq, i_Race_eq, F_Race_eq.binds (ps := pm_Race_eq) fun _ _ _ _ _ _ us hl => match us, hl with | [_, _], _ => rfl⟩
  have T : Txt K mg ⟨ABadPart, ABadBox, ANoWay, AWholeError, AWay, ARace, AT0⟩ :=
    { n_isinstance := PySem.W.mg_none_of X G n_isinstance,
      n_int := PySem.W.mg_none_of X G n_int,
      n_bool := PySem.W.mg_none_of X G n_bool,
      n_list := PySem.W.mg_none_of X G n_list,
      n_tuple := PySem.W.mg_none_of X G n_tuple,
      n_len := PySem.W.mg_none_of X G n_len,
      n_range := PySem.W.mg_none_of X G n_range,
      n_max := PySem.W.mg_none_of X G n_max,
      n_enumerate := PySem.W.mg_none_of X G n_enumerate,
      n_all := PySem.W.mg_none_of X G n_all,
      g_MOST_BEGIN := ⟨_, PySem.W.mg_of X G v_MOST_BEGIN⟩,
      g_MOST_DELAY := ⟨_, PySem.W.mg_of X G v_MOST_DELAY⟩,
      g_MOST_BOXES := ⟨_, PySem.W.mg_of X G v_MOST_BOXES⟩,
      g_MOST_KEEP := ⟨_, PySem.W.mg_of X G v_MOST_KEEP⟩,
      g_MOST_WAYS := ⟨_, PySem.W.mg_of X G v_MOST_WAYS⟩,
      g_MOST_SILENT := ⟨_, PySem.W.mg_of X G v_MOST_SILENT⟩,
      Way := ⟨PySem.W.mg_of X G g_Way, ⟨pg_Way, hd_Way, po_Way, sa_Way⟩, ha_Way, s_hn, s_tk, hm_Way, ne_Way, is_Way, ty_Way, tup_Way, lst_Way, int_Way, str_Way⟩,
      w_begin := na_Way_begin,
      w_least := na_Way_least,
      w_most := na_Way_most,
      w_boxes := na_Way_boxes,
      Race := ⟨PySem.W.mg_of X G g_Race, ⟨pg_Race, hd_Race, po_Race, sa_Race⟩, ha_Race, s_hn, s_tk, hm_Race, ne_Race, is_Race, ty_Race, tup_Race, lst_Race, int_Race, str_Race⟩,
      r_ways := na_Race_ways,
      r_silent := na_Race_silent,
      BadPart := ⟨⟨⟨_, _, _, _, _, _, _, _, _, _, _, _, _, _, _, xBadPart_L, ve_one⟩, xBadPart_sa, xBadPart_ex, xBadPart_ty, xBadPart_kC⟩, PySem.W.mg_of X G g_BadPart, xBadPart_noA, ⟨xBadPart_hg, xBadPart_hk, xBadPart_ex, xBadPart_hd, xBadPart_ha, s_hn, s_tk, xBadPart_hm⟩, _, a_BadPart_init, i_BadPart_init, _, F_BadPart_init, F_BadPart_init.binds (ps := ["self", "part"]) fun _ _ _ _ _ _ us hl => match us, hl with | [_, _], _ => rfl⟩,
      BadBox := ⟨⟨⟨_, _, _, _, _, _, _, _, _, _, _, _, _, _, _, xBadBox_L, ve_one⟩, xBadBox_sa, xBadBox_ex, xBadBox_ty, xBadBox_kC⟩, PySem.W.mg_of X G g_BadBox, xBadBox_noA, ⟨xBadBox_hg, xBadBox_hk, xBadBox_ex, xBadBox_hd, xBadBox_ha, s_hn, s_tk, xBadBox_hm⟩, _, a_BadBox_init, i_BadBox_init, _, F_BadBox_init, F_BadBox_init.binds (ps := ["self", "index"]) fun _ _ _ _ _ _ us hl => match us, hl with | [_, _], _ => rfl⟩,
      NoWay := ⟨⟨⟨_, _, _, _, _, _, _, _, _, _, _, _, _, _, _, xNoWay_L, ve_one⟩, xNoWay_sa, xNoWay_ex, xNoWay_ty, xNoWay_kC⟩, PySem.W.mg_of X G g_NoWay, xNoWay_noA, ⟨xNoWay_hg, xNoWay_hk, xNoWay_ex, xNoWay_hd, xNoWay_ha, s_hn, s_tk, xNoWay_hm⟩, _, a_NoWay_init, i_NoWay_init, _, F_NoWay_init, F_NoWay_init.binds (ps := ["self", "way"]) fun _ _ _ _ _ _ us hl => match us, hl with | [_, _], _ => rfl⟩,
      g_WholeError := PySem.W.mg_of X G g_WholeError,
      x_pp := kit_ref xBadPart_is xBadPart_ty xBadPart_ss xBadPart_ss,
      x_nn := kit_ref xNoWay_is xNoWay_ty xNoWay_ss xNoWay_ss,
      x_pw := exm_ref xw_b xw_i xw_t xBadPart_w,
      x_nw := exm_ref xw_b xw_i xw_t xNoWay_w,
      t0 := fun H => .inr ⟨_, #[], en, d_0, rfl, rfl, Nat.zero_le _, .nil⟩ }
  exact ⟨PySem.W.fnOf "law" "law" (defArgs s_law) (defBody s_law) (defScope s_law) .none kV_law dc_law pm_law_ an_law cd_law ct_law, fun s v => .of_eq rfl, fun base _ _ =>
    law_ok T D_is_integer D_is_between D_is_index D_is_list D_is_list_of D_is_tuple_of D_is_begin D_are_delays D_is_box D_check_ways D_check_silent D_check_way D_check_win D_win_run D_silent_after D_win_paper D__law_draw D__law_way D__law_ways D__law_made D__law_called D__law_refused D__law_ways_refused M_Way_eq M_Race_init M_Race_planned M_Race_hurried M_Race_can_win M_Race_last_win M_Race_eq mk_Race kc_Race FI ⟨mk_Way, a_Way_init, i_Way_init, kc_Way⟩ B4 v3 B3 (fun_mk (st := s_law) l_law c_law k_law)⟩
theorem walk {l : PySem.W.OpenLaw} {q : Program} {loose : List Str} {XP : (Str → Option Value) → Heap → Prop} {YP : World → Heap → Prop} {d : DefRec} {K : Params → PySem.W.Frag} (hn : l.most = some 63) (hdf : d.params.defaults = [])
    (hY : ∀ (w : World) (h : Heap), YP w h → (K w.params).In h)
    (F : ∀ (w : World) (mg : Str → Option Value) (fa : Addr) (h : Heap), (K w.params).In h → h.Ns mainGlobals mg → mg d.name = some (.ref fa) →
      ∃ fd : FuncData, (∀ (s : Shared) (u : Value), BindsTo s fd ⟨[u], []⟩ [("_law_script", u)]) ∧ ∀ base : Heap, (K w.params).In base → base.Ns mainGlobals mg → FnOk l.prog w (K w.params) mg base CX0 14 fa fd ["_law_script"] (spLaw (K w.params))) :
    PySem.W.WalkO q loose XP YP l.row.toRowW d [] (fun f vs => PySem.call f vs) :=
  L2.walk_of (n := 63) (k := 14) (x := "_law_script") (CX := fun _ => CX0) (sp := fun w => spLaw (K w.params)) hn (by decide) hdf ⟨rfl, by decide, by decide⟩ hY F (fun _ _ a ns hl _ hS => ⟨a, ns, rfl, hS, hl, fun _ => rfl⟩) fun _ _ _ _ _ z => z
end K16

open PySem PySem.W PyProof.Rows in
set_option maxRecDepth 100000 in
set_option maxHeartbeats 0 in
theorem PySem.Challenge.cw_wholeline_k16_races_built_holds : PySem.Challenge.rw_wholeline_k16_races_built.Holds := by
  w_on; o_law; k_head; (case hw => w_witness2)
  k_fill
  refine K16.walk (l := PySem.Challenge.rw_wholeline_k16_races_built) rfl rfl (fun w h Y => PySem.W.kIn_of Y) ?F
  case F =>
    intro w mg fa h KX G hmg
    refine' K16.all_mk KX G hmg ?q_g_BadPart ?q_g_BadBox ?q_g_NoWay ?q_g_WholeError ?q_g_Way ?q_g_Race ?q_a_is_integer ?q_l_is_integer ?q_c_is_integer ?q_k_is_integer ?q_a_is_between ?q_l_is_between ?q_c_is_between ?q_k_is_between ?q_a_is_index ?q_l_is_index ?q_c_is_index ?q_k_is_index ?q_a_is_list ?q_l_is_list ?q_c_is_list ?q_k_is_list ?q_a_is_list_of ?q_l_is_list_of ?q_c_is_list_of ?q_k_is_list_of ?q_a_is_tuple_of ?q_l_is_tuple_of ?q_c_is_tuple_of ?q_k_is_tuple_of ?q_a_is_begin ?q_l_is_begin ?q_c_is_begin ?q_k_is_begin ?q_a_are_delays ?q_l_are_delays ?q_c_are_delays ?q_k_are_delays ?q_a_is_box ?q_l_is_box ?q_c_is_box ?q_k_is_box ?q_a_check_ways ?q_l_check_ways ?q_c_check_ways ?q_k_check_ways ?q_a_check_silent ?q_l_check_silent ?q_c_check_silent ?q_k_check_silent ?q_a_check_way ?q_l_check_way ?q_c_check_way ?q_k_check_way ?q_a_check_win ?q_l_check_win ?q_c_check_win ?q_k_check_win ?q_a_win_run ?q_l_win_run ?q_c_win_run ?q_k_win_run ?q_a_silent_after ?q_l_silent_after ?q_c_silent_after ?q_k_silent_after ?q_a_win_paper ?q_l_win_paper ?q_c_win_paper ?q_k_win_paper ?q_a__law_draw ?q_l__law_draw ?q_c__law_draw ?q_k__law_draw ?q_a__law_way ?q_l__law_way ?q_c__law_way ?q_k__law_way ?q_a__law_ways ?q_l__law_ways ?q_c__law_ways ?q_k__law_ways ?q_a__law_made ?q_l__law_made ?q_c__law_made ?q_k__law_made ?q_a__law_called ?q_l__law_called ?q_c__law_called ?q_k__law_called ?q_a__law_refused ?q_l__law_refused ?q_c__law_refused ?q_k__law_refused ?q_a__law_ways_refused ?q_l__law_ways_refused ?q_c__law_ways_refused ?q_k__law_ways_refused ?q_a_law ?q_l_law ?q_c_law ?q_k_law ?q_a_BadPart_init ?q_i_BadPart_init ?q_l_BadPart_init ?q_c_BadPart_init ?q_k_BadPart_init ?q_a_BadBox_init ?q_i_BadBox_init ?q_l_BadBox_init ?q_c_BadBox_init ?q_k_BadBox_init ?q_a_NoWay_init ?q_i_NoWay_init ?q_l_NoWay_init ?q_c_NoWay_init ?q_k_NoWay_init ?q_a_Way_init ?q_i_Way_init ?q_l_Way_init ?q_c_Way_init ?q_k_Way_init ?q_a_Way_eq ?q_i_Way_eq ?q_l_Way_eq ?q_c_Way_eq ?q_k_Way_eq ?q_a_Race_init ?q_i_Race_init ?q_l_Race_init ?q_c_Race_init ?q_k_Race_init ?q_a_Race_planned ?q_i_Race_planned ?q_l_Race_planned ?q_c_Race_planned ?q_k_Race_planned ?q_a_Race_hurried ?q_i_Race_hurried ?q_l_Race_hurried ?q_c_Race_hurried ?q_k_Race_hurried ?q_a_Race_can_win ?q_i_Race_can_win ?q_l_Race_can_win ?q_c_Race_can_win ?q_k_Race_can_win ?q_a_Race_last_win ?q_i_Race_last_win ?q_l_Race_last_win ?q_c_Race_last_win ?q_k_Race_last_win ?q_a_Race_eq ?q_i_Race_eq ?q_l_Race_eq ?q_c_Race_eq ?q_k_Race_eq ?q_d_T ?q_d_0 ?q_n_isinstance ?q_n_int ?q_n_bool ?q_n_list ?q_n_tuple ?q_n_len ?q_n_range ?q_n_max ?q_n_enumerate ?q_n_all ?q_v_MOST_BEGIN ?q_v_MOST_DELAY ?q_v_MOST_BOXES ?q_v_MOST_KEEP ?q_v_MOST_WAYS ?q_v_MOST_SILENT ?q_s_hn ?q_s_tk ?q_pg_Way ?q_hd_Way ?q_po_Way ?q_sa_Way ?q_ha_Way ?q_hm_Way ?q_ne_Way ?q_is_Way ?q_ty_Way ?q_tup_Way ?q_lst_Way ?q_int_Way ?q_str_Way ?q_mk_Way ?q_kc_Way ?q_na_Way_begin ?q_na_Way_least ?q_na_Way_most ?q_na_Way_boxes ?q_pg_Race ?q_hd_Race ?q_po_Race ?q_sa_Race ?q_ha_Race ?q_hm_Race ?q_ne_Race ?q_is_Race ?q_ty_Race ?q_tup_Race ?q_lst_Race ?q_int_Race ?q_str_Race ?q_mk_Race ?q_kc_Race ?q_na_Race_ways ?q_na_Race_silent ?q_xBadPart_L ?q_xBadPart_sa ?q_xBadPart_ex ?q_xBadPart_ty ?q_xBadPart_kC ?q_xBadPart_noA ?q_xBadPart_hg ?q_xBadPart_hk ?q_xBadPart_hd ?q_xBadPart_ha ?q_xBadPart_hm ?q_xBadPart_is ?q_xBadPart_ss ?q_xBadPart_w ?q_xBadBox_L ?q_xBadBox_sa ?q_xBadBox_ex ?q_xBadBox_ty ?q_xBadBox_kC ?q_xBadBox_noA ?q_xBadBox_hg ?q_xBadBox_hk ?q_xBadBox_hd ?q_xBadBox_ha ?q_xBadBox_hm ?q_xBadBox_is ?q_xBadBox_ss ?q_xBadBox_w ?q_xNoWay_L ?q_xNoWay_sa ?q_xNoWay_ex ?q_xNoWay_ty ?q_xNoWay_kC ?q_xNoWay_noA ?q_xNoWay_hg ?q_xNoWay_hk ?q_xNoWay_hd ?q_xNoWay_ha ?q_xNoWay_hm ?q_xNoWay_is ?q_xNoWay_ss ?q_xNoWay_w ?q_xw_i ?q_xw_t ?q_xw_b
    (case q_g_BadPart => k_is)
    (case q_g_BadBox => k_is)
    (case q_g_NoWay => k_is)
    (case q_g_WholeError => k_is)
    (case q_g_Way => k_is)
    (case q_g_Race => k_is)
    (case q_a_is_integer => k_is)
    (case q_l_is_integer => k_is)
    (case q_c_is_integer => k_is)
    (case q_k_is_integer => k_is)
    (case q_a_is_between => k_is)
    (case q_l_is_between => k_is)
    (case q_c_is_between => k_is)
    (case q_k_is_between => k_is)
    (case q_a_is_index => k_is)
    (case q_l_is_index => k_is)
    (case q_c_is_index => k_is)
    (case q_k_is_index => k_is)
    (case q_a_is_list => k_is)
    (case q_l_is_list => k_is)
    (case q_c_is_list => k_is)
    (case q_k_is_list => k_is)
    (case q_a_is_list_of => k_is)
    (case q_l_is_list_of => k_is)
    (case q_c_is_list_of => k_is)
    (case q_k_is_list_of => k_is)
    (case q_a_is_tuple_of => k_is)
    (case q_l_is_tuple_of => k_is)
    (case q_c_is_tuple_of => k_is)
    (case q_k_is_tuple_of => k_is)
    (case q_a_is_begin => k_is)
    (case q_l_is_begin => k_is)
    (case q_c_is_begin => k_is)
    (case q_k_is_begin => k_is)
    (case q_a_are_delays => k_is)
    (case q_l_are_delays => k_is)
    (case q_c_are_delays => k_is)
    (case q_k_are_delays => k_is)
    (case q_a_is_box => k_is)
    (case q_l_is_box => k_is)
    (case q_c_is_box => k_is)
    (case q_k_is_box => k_is)
    (case q_a_check_ways => k_is)
    (case q_l_check_ways => k_is)
    (case q_c_check_ways => k_is)
    (case q_k_check_ways => k_is)
    (case q_a_check_silent => k_is)
    (case q_l_check_silent => k_is)
    (case q_c_check_silent => k_is)
    (case q_k_check_silent => k_is)
    (case q_a_check_way => k_is)
    (case q_l_check_way => k_is)
    (case q_c_check_way => k_is)
    (case q_k_check_way => k_is)
    (case q_a_check_win => k_is)
    (case q_l_check_win => k_is)
    (case q_c_check_win => k_is)
    (case q_k_check_win => k_is)
    (case q_a_win_run => k_is)
    (case q_l_win_run => k_is)
    (case q_c_win_run => k_is)
    (case q_k_win_run => k_is)
    (case q_a_silent_after => k_is)
    (case q_l_silent_after => k_is)
    (case q_c_silent_after => k_is)
    (case q_k_silent_after => k_is)
    (case q_a_win_paper => k_is)
    (case q_l_win_paper => k_is)
    (case q_c_win_paper => k_is)
    (case q_k_win_paper => k_is)
    (case q_a__law_draw => k_is)
    (case q_l__law_draw => k_is)
    (case q_c__law_draw => k_is)
    (case q_k__law_draw => k_is)
    (case q_a__law_way => k_is)
    (case q_l__law_way => k_is)
    (case q_c__law_way => k_is)
    (case q_k__law_way => k_is)
    (case q_a__law_ways => k_is)
    (case q_l__law_ways => k_is)
    (case q_c__law_ways => k_is)
    (case q_k__law_ways => k_is)
    (case q_a__law_made => k_is)
    (case q_l__law_made => k_is)
    (case q_c__law_made => k_is)
    (case q_k__law_made => k_is)
    (case q_a__law_called => k_is)
    (case q_l__law_called => k_is)
    (case q_c__law_called => k_is)
    (case q_k__law_called => k_is)
    (case q_a__law_refused => k_is)
    (case q_l__law_refused => k_is)
    (case q_c__law_refused => k_is)
    (case q_k__law_refused => k_is)
    (case q_a__law_ways_refused => k_is)
    (case q_l__law_ways_refused => k_is)
    (case q_c__law_ways_refused => k_is)
    (case q_k__law_ways_refused => k_is)
    (case q_a_law => k_is)
    (case q_l_law => k_is)
    (case q_c_law => k_is)
    (case q_k_law => k_is)
    (case q_a_BadPart_init => k_is)
    (case q_i_BadPart_init => k_is)
    (case q_l_BadPart_init => k_is)
    (case q_c_BadPart_init => k_is)
    (case q_k_BadPart_init => k_is)
    (case q_a_BadBox_init => k_is)
    (case q_i_BadBox_init => k_is)
    (case q_l_BadBox_init => k_is)
    (case q_c_BadBox_init => k_is)
    (case q_k_BadBox_init => k_is)
    (case q_a_NoWay_init => k_is)
    (case q_i_NoWay_init => k_is)
    (case q_l_NoWay_init => k_is)
    (case q_c_NoWay_init => k_is)
    (case q_k_NoWay_init => k_is)
    (case q_a_Way_init => k_is)
    (case q_i_Way_init => k_is)
    (case q_l_Way_init => k_is)
    (case q_c_Way_init => k_is)
    (case q_k_Way_init => k_is)
    (case q_a_Way_eq => k_is)
    (case q_i_Way_eq => k_is)
    (case q_l_Way_eq => k_is)
    (case q_c_Way_eq => k_is)
    (case q_k_Way_eq => k_is)
    (case q_a_Race_init => k_is)
    (case q_i_Race_init => k_is)
    (case q_l_Race_init => k_is)
    (case q_c_Race_init => k_is)
    (case q_k_Race_init => k_is)
    (case q_a_Race_planned => k_is)
    (case q_i_Race_planned => k_is)
    (case q_l_Race_planned => k_is)
    (case q_c_Race_planned => k_is)
    (case q_k_Race_planned => k_is)
    (case q_a_Race_hurried => k_is)
    (case q_i_Race_hurried => k_is)
    (case q_l_Race_hurried => k_is)
    (case q_c_Race_hurried => k_is)
    (case q_k_Race_hurried => k_is)
    (case q_a_Race_can_win => k_is)
    (case q_i_Race_can_win => k_is)
    (case q_l_Race_can_win => k_is)
    (case q_c_Race_can_win => k_is)
    (case q_k_Race_can_win => k_is)
    (case q_a_Race_last_win => k_is)
    (case q_i_Race_last_win => k_is)
    (case q_l_Race_last_win => k_is)
    (case q_c_Race_last_win => k_is)
    (case q_k_Race_last_win => k_is)
    (case q_a_Race_eq => k_is)
    (case q_i_Race_eq => k_is)
    (case q_l_Race_eq => k_is)
    (case q_c_Race_eq => k_is)
    (case q_k_Race_eq => k_is)
    (case q_d_T => k_is)
    (case q_d_0 => k_is)
    (case q_n_isinstance => k_is)
    (case q_n_int => k_is)
    (case q_n_bool => k_is)
    (case q_n_list => k_is)
    (case q_n_tuple => k_is)
    (case q_n_len => k_is)
    (case q_n_range => k_is)
    (case q_n_max => k_is)
    (case q_n_enumerate => k_is)
    (case q_n_all => k_is)
    (case q_v_MOST_BEGIN => k_is)
    (case q_v_MOST_DELAY => k_is)
    (case q_v_MOST_BOXES => k_is)
    (case q_v_MOST_KEEP => k_is)
    (case q_v_MOST_WAYS => k_is)
    (case q_v_MOST_SILENT => k_is)
    (case q_s_hn => k_is)
    (case q_s_tk => k_is)
    (case q_pg_Way => k_is)
    (case q_hd_Way => k_is)
    (case q_po_Way => k_is)
    (case q_sa_Way => k_is)
    (case q_ha_Way => k_is)
    (case q_hm_Way => k_is)
    (case q_ne_Way => k_is)
    (case q_is_Way => k_is)
    (case q_ty_Way => k_is)
    (case q_tup_Way => k_is)
    (case q_lst_Way => k_is)
    (case q_int_Way => k_is)
    (case q_str_Way => k_is)
    (case q_mk_Way => k_is)
    (case q_kc_Way => k_is)
    (case q_na_Way_begin => k_is)
    (case q_na_Way_least => k_is)
    (case q_na_Way_most => k_is)
    (case q_na_Way_boxes => k_is)
    (case q_pg_Race => k_is)
    (case q_hd_Race => k_is)
    (case q_po_Race => k_is)
    (case q_sa_Race => k_is)
    (case q_ha_Race => k_is)
    (case q_hm_Race => k_is)
    (case q_ne_Race => k_is)
    (case q_is_Race => k_is)
    (case q_ty_Race => k_is)
    (case q_tup_Race => k_is)
    (case q_lst_Race => k_is)
    (case q_int_Race => k_is)
    (case q_str_Race => k_is)
    (case q_mk_Race => k_is)
    (case q_kc_Race => k_is)
    (case q_na_Race_ways => k_is)
    (case q_na_Race_silent => k_is)
    (case q_xBadPart_L => k_is)
    (case q_xBadPart_sa => k_is)
    (case q_xBadPart_ex => k_is)
    (case q_xBadPart_ty => k_is)
    (case q_xBadPart_kC => k_is)
    (case q_xBadPart_noA => k_is)
    (case q_xBadPart_hg => k_is)
    (case q_xBadPart_hk => k_is)
    (case q_xBadPart_hd => k_is)
    (case q_xBadPart_ha => k_is)
    (case q_xBadPart_hm => k_is)
    (case q_xBadPart_is => k_is)
    (case q_xBadPart_ss => k_is)
    (case q_xBadPart_w => k_is)
    (case q_xBadBox_L => k_is)
    (case q_xBadBox_sa => k_is)
    (case q_xBadBox_ex => k_is)
    (case q_xBadBox_ty => k_is)
    (case q_xBadBox_kC => k_is)
    (case q_xBadBox_noA => k_is)
    (case q_xBadBox_hg => k_is)
    (case q_xBadBox_hk => k_is)
    (case q_xBadBox_hd => k_is)
    (case q_xBadBox_ha => k_is)
    (case q_xBadBox_hm => k_is)
    (case q_xBadBox_is => k_is)
    (case q_xBadBox_ss => k_is)
    (case q_xBadBox_w => k_is)
    (case q_xNoWay_L => k_is)
    (case q_xNoWay_sa => k_is)
    (case q_xNoWay_ex => k_is)
    (case q_xNoWay_ty => k_is)
    (case q_xNoWay_kC => k_is)
    (case q_xNoWay_noA => k_is)
    (case q_xNoWay_hg => k_is)
    (case q_xNoWay_hk => k_is)
    (case q_xNoWay_hd => k_is)
    (case q_xNoWay_ha => k_is)
    (case q_xNoWay_hm => k_is)
    (case q_xNoWay_is => k_is)
    (case q_xNoWay_ss => k_is)
    (case q_xNoWay_w => k_is)
    (case q_xw_i => k_is)
    (case q_xw_t => k_is)
    (case q_xw_b => k_is)
