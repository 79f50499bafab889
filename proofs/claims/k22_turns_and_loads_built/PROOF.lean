import PyProof.Rows.All
import Wide.All
import OpenK.AllK
import Wide.FinOn
import PyProof.EqAt
import PyProof.EqKinds
import PyProof.TupleCall
import HandS.Base
import HandS.Call
import HandS.List
import HandS.Comp
import HandS.Ends
import HandS.Words
import HandS.WordsList
import HandS.Exc
import HandS.ExcInit
import HandS.ExcIs
import HandS.OwnEq
import HandS.IsInst
import HandS.ExcOwn
import HandS.ExcField
import HandS.WordsExc
import HandS.TryOnly
import HandS.TryMany
import HandS.CallSlots
import HandS.Wide
import HandS.Codes
import KE.KTupSum
import PyProof.ListRange
import PySem.Challenge.RW_wholeline_k22_turns_and_loads_built
import HandS.Evl
import HandS.TupAny
set_option Elab.async false
set_option maxRecDepth 100000
set_option maxHeartbeats 4000000
namespace PySem.W
open PySem PySem.Calls PyProof.Rows
section
variable {prog : Program} {w : World} {A : Around} {E : Value → Shared → Prop} {s : Shared} {K : Frag} {x C L f : Addr} {h₀ : Heap} {m : Str → Option Value} {ox : Obj} {od : Option Obj} {b tb : Value}
theorem objNe_K {Q : Fin → Shared → Prop} (hu : A.units < cLine) (X : K.In s.heap) (I : InstAt s.heap x ox C od)
    (hs : findIn K (.ref C) "__eq__" = some (some (.ref f))) (hf : isFn K (.ref f) = true)
    (h : wpAny (model prog w) A (call (.ref f) [.ref x, b]) (fun v s' => ∃ r, v = .bool r ∧ Q (.done (.ret (.bool (!r)))) s') E s) :
    wpAny (model prog w) A (Builtin.«object.__ne__» ⟨[.ref x, b], []⟩) Q E s := by
  obtain ⟨hp, g, d, tk, os⟩ := s
  unfold Builtin.«object.__ne__»
  repeat (first
    | with_reducible refine wpAny_cRoomFor hu ?_
    | (refine wpAny_bind (m := callSpecialIfBound? (.ref x) (Str.ofString "__eq__") [b])
        (ifBound_K X I hs hf (wpAny_mono h (fun r s' hr => by
          obtain ⟨b, rfl, hq⟩ := hr
          repeat (first | exact hq | exact wpAny_pure hq | exact wpAny_truthy_bool hq | (refine wpAny_bind (m := truthy (.bool _)) (wpAny_truthy_bool ?_)) | wp_step)) fun _ _ e => e)))
    | wp_step)
theorem cmpNe_K {Q : Value → Shared → Prop} (hu : A.units + 1 < cLine) (F : Fr h₀ L s.heap m) (X₀ : K.In h₀) (I : InstAt s.heap x ox C od) (hb : Looks (model prog w) s.heap (typeOf b) tb) (hn : notFirst K C tb = true)
    (hne : findIn K (.ref C) "__ne__" = some (some (.builtin "object.__ne__"))) (hm : mroIn K C (.type "object") = some true)
    (hs : findIn K (.ref C) "__eq__" = some (some (.ref f))) (hf : isFn K (.ref f) = true)
    (h : wpAny (model prog w) A.in1 (call (.ref f) [.ref x, b]) (fun v s' => ∃ r, v = .bool r ∧ Q (.bool (!r)) s') E s) : wpAny (model prog w) A (richCompare .NotEq (.ref x) b) Q E s := by
  have X := X₀.keeps F.keep
  have sub : Looks (model prog w) s.heap (isInstance (.ref x) (.type "object")) true := I.type.andThen (looks_mroIn X hm)
  have one : wpAny (model prog w) A (tryCompare (.ref x) "__ne__" b) (fun r s' => ∃ v, r = some v ∧ Q v s') E s := by
    unfold tryCompare
    refine wpAny_bind ?_
    simp only [callSpecialIfBound?, bindSpecialIfBound?]
    refine wpAny_holding (wpAny_bind (wpAny_bind (wpAny_bind (I.type.here ((looks_findIn X hne).here ?_)))))
    simp only [PySem.F.cmp_object.ne.bind]
    refine wpAny_bind (wpAny_askSetting (wpAny_ite ?_))
    have fin : wpAny (model prog w) A (call (.builtin "object.__ne__") ([.ref x] ++ [b]) >>= fun v => pure (some v)) (fun r s' => wpAny (model prog w) A (match r with
        | some .notImplemented | none => pure none
        | some v => pure (some v)) (fun r s' => ∃ v, r = some v ∧ Q v s') E s') E s := by
      refine wpAny_bind (wpAny_call (codeAny_call_builtin PySem.F.cmp_object.ne.plain PySem.F.cmpEntry_ne (check_slot PySem.F.cmpKind_ne PySem.F.cmpSplit_ne sub (PySem.F.cmpArgs_ne _ _)
        (objNe_K (A := A.in1) hu X I hs hf (wpAny_mono h (fun v s' hv => ?_) fun _ _ e => e)))))
      obtain ⟨r, rfl, hq⟩ := hv
      first | exact ⟨r, rfl, wpAny_pure (wpAny_pure ⟨_, rfl, hq⟩)⟩ | exact ⟨r, rfl, wpAny_pure ⟨_, rfl, hq⟩⟩
    split
    · repeat (first | exact fin | with_reducible refine wpAny_pure ?_ | with_reducible refine wpAny_bind ?_ | with_reducible refine wpAny_tryCatch ?_)
    · refine wpAny_tryCatch ?_
      repeat (first | exact fin | with_reducible refine wpAny_pure ?_ | with_reducible refine wpAny_bind ?_)
  unfold richCompare
  simp only [oneThing_ref]
  refine wpAny_holding (wpAny_bind (wpAny_cRoomFor (Nat.lt_of_succ_lt hu) ?_))
  refine wpAny_bind (I.type.here (wpAny_bind (hb.here ?_)))
  split
  · rename_i q
    have e : subIn K tb (.ref C) = some false := by
      rcases Bool.or_eq_true_iff.mp hn with e | e
      · rw [beq_iff_eq.mp e] at q; simp at q
      · exact beq_iff_eq.mp e
    refine wpAny_bind ((looks_subIn X e).here ?_)
    simp only [Bool.false_eq_true, if_false]
    refine wpAny_bind (wpAny_mono one (fun r s' z => ?_) fun _ _ e => e)
    obtain ⟨v, rfl, hq⟩ := z
    exact wpAny_pure hq
  · refine wpAny_bind (wpAny_pure ?_)
    simp only [Bool.false_eq_true, if_false]
    refine wpAny_bind (wpAny_mono one (fun r s' z => ?_) fun _ _ e => e)
    obtain ⟨v, rfl, hq⟩ := z
    exact wpAny_pure hq
end
end PySem.W

set_option Elab.async false
set_option maxRecDepth 100000
set_option maxHeartbeats 4000000
namespace L2
open PySem PySem.Spec PyProof.Rows
section
variable {X : Cx} {CX : CXT} {k : Nat} {f C : Addr} {fd : FuncData} {ps : List Str} {sp : Sp}
/-- the own method f, called at some frame below with room -/
theorem run_at {A : Around} {pins : List (Addr × Obj)} {σ : St} {H : Hp} {s : Shared} {Q : VK} {us : List Value} {vs : List V} (F : FnOk X.prog X.w X.K X.mg X.base CX k f fd ps sp) (hr : Room k A) (hA : A.frames = X.A.frames) (hb : Binds X.K fd ps []) (hx : Passes CX X E0)
    (I : Inv X pins σ H s) (r : Vals vs us) (h : sp vs H Q E0) : wpAny (model X.prog X.w) A (call (.ref f) us) (EP X pins σ Q) X.xe s := by
  have hl : us.length = ps.length := by rw [← r.length]; exact F.len _ _ _ _ h
  have e0 : Env0 X.prog X.w X.K X.mg X.base A X.stack s H := by
    have e := I.env0
    exact ⟨by rw [hA]; exact e.frames, e.mod, e.bs, e.bsz, e.funs, e.frf, e.hok, e.bare⟩
  refine wpAny_call (codeAny_mono (F.run A X.stack s H ⟨us, []⟩ us vs Q E0 hr e0 (by
    have := hb s us I.kIn (by simpa using hl)
    simpa using this) r h) fun r s' hq => ?_)
  cases r with
  | error e => exact hx pins σ H s e s' I hq
  | ok fl =>
    cases fl with
    | ret u => exact I.after hq
    | next => exact False.elim hq
    | brk => exact False.elim hq
    | cont => exact False.elim hq
/-- x == y, x an instance of the class at C, by its own ==; y anything whose type is known -/
def rEqO (K : PySem.W.Frag) (C : Addr) (sp : Sp) : R2 := fun x y H Q => ∃ a dx fs t, x = .ref a ∧ H a = some (.ins C dx fs) ∧ TyX K H y t ∧ PySem.W.notFirst K C t = true ∧ sp [x, y] H (fun v H' => ∃ b, v = .bl b ∧ Q (.bl b) H') E0
def rNeO (K : PySem.W.Frag) (C : Addr) (sp : Sp) : R2 := fun x y H Q => ∃ a dx fs t, x = .ref a ∧ H a = some (.ins C dx fs) ∧ TyX K H y t ∧ PySem.W.notFirst K C t = true ∧ sp [x, y] H (fun v H' => ∃ b, v = .bl b ∧ Q (.bl (!b)) H') E0
structure EqM (K : PySem.W.Frag) (C f : Addr) : Prop where
  eq : PySem.W.findIn K (.ref C) "__eq__" = some (some (.ref f))
  fn : PySem.W.isFn K (.ref f) = true
  ne : PySem.W.findIn K (.ref C) "__ne__" = some (some (.builtin "object.__ne__"))
  ob : PySem.W.mroIn K C (.type "object") = some true
theorem op_eqO (F : FnOk X.prog X.w X.K X.mg X.base CX k f fd ps sp) (M : EqM X.K C f) (hr : Room k X.A) (hb : Binds X.K fd ps []) (hx : Passes CX X E0) : OpR X (compareOp .Eq) (rEqO X.K C sp) := by
  intro pins s σ H x y v u Q I rx ry hq
  obtain ⟨a, dx, fs, t, rfl, ha, ty, hn, q⟩ := hq
  cases (show v = Value.ref a from rx)
  obtain ⟨P, Z, p, _⟩ := kit_of I ry ty
  obtain ⟨mA, J, _⟩ := ins_get I.hok ha
  obtain ⟨od, J, _⟩ := J.look
  obtain ⟨m, hF⟩ := I.fr
  show wpAny (model X.prog X.w) X.A (richCompare .Eq (.ref a) u) (EP X pins σ Q) X.xe s
  refine PySem.W.cmp_K (op := .Eq) (tb := t) hr.units0 hF I.ok.mod.kin J (Z.ty _ _ I.kIn p) hn M.eq M.fn ?_
  refine wpAny_mono (run_at (vs := [.ref a, y]) F hr rfl hb hx I (.cons rfl (.cons ry .nil)) q) (fun v' s' z => ?_) fun _ _ e => e
  obtain ⟨w', H', I', rv, b, rfl, q'⟩ := z
  cases rv
  exact ⟨.bl b, H', I', rfl, q'⟩
theorem op_neO (F : FnOk X.prog X.w X.K X.mg X.base CX k f fd ps sp) (M : EqM X.K C f) (hr : Room (k + 1) X.A) (hb : Binds X.K fd ps []) (hx : Passes CX X E0) : OpR X (compareOp .NotEq) (rNeO X.K C sp) := by
  intro pins s σ H x y v u Q I rx ry hq
  obtain ⟨a, dx, fs, t, rfl, ha, ty, hn, q⟩ := hq
  cases (show v = Value.ref a from rx)
  obtain ⟨P, Z, p, _⟩ := kit_of I ry ty
  obtain ⟨mA, J, _⟩ := ins_get I.hok ha
  obtain ⟨od, J, _⟩ := J.look
  obtain ⟨m, hF⟩ := I.fr
  show wpAny (model X.prog X.w) X.A (richCompare .NotEq (.ref a) u) (EP X pins σ Q) X.xe s
  refine PySem.W.cmpNe_K (tb := t) (by have := hr.units; omega) hF I.ok.mod.kin J (Z.ty _ _ I.kIn p) hn M.ne M.ob M.eq M.fn ?_
  refine wpAny_mono (run_at (vs := [.ref a, y]) F hr.in1 rfl hb hx I (.cons rfl (.cons ry .nil)) q) (fun v' s' z => ?_) fun _ _ e => e
  obtain ⟨w', H', I', rv, b, rfl, q'⟩ := z
  cases rv
  exact ⟨b, rfl, .bl (!b), H', I', rfl, q'⟩
/-- len(o), o an instance of the class at C with an own __len__ -/
def rLenO (C : Addr) (sp : Sp) : List V → Hp → VK → Prop := fun xs H Q => ∃ a dx fs, xs = [.ref a] ∧ H a = some (.ins C dx fs) ∧ sp [.ref a] H (fun v H' => ∃ n : Int, v = .int n ∧ (0 ≤ n ∧ n < 2 ^ 63) ∧ Q (.int n) H') E0
theorem call_lenO (F : FnOk X.prog X.w X.K X.mg X.base CX k f fd ps sp) (hs : PySem.W.findIn X.K (.ref C) "__len__" = some (some (.ref f))) (hf : PySem.W.isFn X.K (.ref f) = true) (hr : Room (k + 1) X.A) (hb : Binds X.K fd ps []) (hx : Passes CX X E0) :
    CallR X (.builtin "len") (rLenO C sp) := by
  intro pins s σ H xs us Q I r h
  obtain ⟨a, dx, fs, rfl, ha, q⟩ := h
  cases r with
  | cons rx rr =>
    rename_i u us'
    cases rr
    cases (show u = Value.ref a from rx)
    obtain ⟨mA, J, _⟩ := ins_get I.hok ha
    obtain ⟨od, J, _⟩ := J.look
    obtain ⟨m, hF⟩ := I.fr
    refine PySem.W.len_K hF I.ok.mod.kin J hs hf ?_
    refine wpAny_mono (run_at (vs := [.ref a]) F hr.in1 rfl hb hx I (.cons rfl .nil) q) (fun v' s' z => ?_) fun _ _ e => e
    obtain ⟨w', H', I', rv, n, rfl, hn, q'⟩ := z
    obtain ⟨t, rfl⟩ := (show ∃ t, v' = Value.int n t from rv)
    exact ⟨hn, .int n, H', I'.tok _, ⟨_, rfl⟩, q'⟩
end
end L2

set_option Elab.async false
set_option maxRecDepth 100000
set_option maxHeartbeats 4000000
namespace PySem.W
open PySem PySem.Spec PySem.Calls PyProof.Rows
section
variable {K : Frag} {C : Addr}
theorem findObj_dat {od : Option Obj} {name : Str} {a g : Value} (hc : (clsIn K C).isSome = true) (ha : findIn K (.ref C) name = some (some a)) (hg : specialIn K a "__get__" = some (some g)) (ht : takesIn K a = some true) :
    findObj K C od name = some (.bind g a) := by
  obtain ⟨cd, hc⟩ := Option.isSome_iff_exists.mp hc
  simp [findObj, hc, ha, hg, ht]
variable {prog : Program} {w : World} {A : Around} {E : Value → Shared → Prop} {s : Shared} {x D : Addr} {ox : Obj}
theorem kin_classD {od : Option Obj} {Q : Option Value → Shared → Prop} (T : L2.ExcC K D)
    (X : K.In s.heap) (I : InstAt s.heap x ox D od) (h : Q (some (.ref D)) { s with toks := s.toks + 1 }) : wpAny (model prog w) A (getAttr? (.ref x) "__class__") Q E s := by
  have hf : findObj K D od "__class__" = some (.bind (.builtin "getset_descriptor.__get__") (.builtin "object.__class__")) :=
    findObj_dat (by obtain ⟨cd, hc, _⟩ := any_some T.hd; rw [hc]; rfl) T.ha T.hn T.ht
  obtain ⟨hp, g, d, t, os⟩ := s
  have L0 := I.type (M := model prog w)
  have L1 := looks_findIn (M := model prog w) X T.hg
  have L2 := looks_findIn (M := model prog w) X T.hk
  have L3 := looks_find (M := model prog w) X I hf
  have sub : Looks (model prog w) hp (isInstance (.ref x) (.type "BaseException")) true := L0.andThen (looks_subIn X T.hs)
  have hx0 : (false && onTheHeap (Value.builtin "BaseException.__getattribute__")) = false := rfl
  have hx2 : (Value.builtin "BaseException.__getattribute__" == Value.builtin "object.__getattribute__") = false := by decide +kernel
  have hx1 : (onTheHeap (Value.ref D) && Value.builtin "BaseException.__getattribute__" == Value.builtin "object.__getattribute__") = false := by rw [hx2]; rfl
  unfold getAttr? getAttrBy? getAttrBy
  refine wpAny_bind (wpAny_mkText (wpAny_bind (wpAny_attempt (wpAny_holding (wpAny_bind (L0.at (wpAny_bind (L1.at ?_))))))))
  show wpAny _ _ (if (onTheHeap (Value.ref D) && Value.builtin "BaseException.__getattribute__" == Value.builtin "object.__getattribute__") = true then _ else _) _ _ _
  rw [hx1, if_neg Bool.false_ne_true]
  unfold getAttrByItsOwn hookBefore
  refine wpAny_bind ?_
  rw [if_pos (show onTheHeap (Value.ref D) = true from rfl)]
  refine L2.at ?_
  refine wpAny_bind (wpAny_attempt (wpAny_holding ?_))
  unfold callGetattribute
  rw [hx0, if_neg Bool.false_ne_true]
  unfold boundAndCalled
  rw [PySem.F.excAttr_ValueError.ga.bind (.ref x)]
  refine wpAny_bind (wpAny_pure ?_)
  show wpAny _ _ (call (.builtin "BaseException.__getattribute__") [.ref x, .str "__class__" t]) _ _ _
  refine wpAny_call (codeAny_call_builtin PySem.F.excAttr_ValueError.ga.plain PySem.F.entry_bexc_ga ?_)
  refine @check_slot (model prog w) _ _ ⟨hp, g, d, t + 1, os⟩ "BaseException.__getattribute__" "BaseException" "__getattribute__" (.ref x) [.str "__class__" t] [] _ (by decide +kernel) (by decide +kernel) sub (PySem.F.args_bexc_ga (.ref x) (.str "__class__" t)) ?_
  unfold Builtin.«object.__getattribute__»
  refine wpAny_bind (wpAny_of_eq (a := ((Value.ref x : Value), [Value.str "__class__" t])) (by first | rfl | (simp only [slotArgs]; rfl)) ?_)
  refine wpAny_bind (wpAny_pure (wpAny_bind (L0.at (wpAny_bind (L3.at ?_)))))
  show wpAny _ _ (holding [Value.builtin "object.__class__"] (call (.builtin "getset_descriptor.__get__") [.builtin "object.__class__", .ref x, .ref D]) >>= ret) _ _ _
  refine wpAny_bind (wpAny_holding (wpAny_call (class_get (s := ⟨hp, g, d, t + 1, os⟩) (ox := ox) (od := od) X I T.hm ?_)))
  refine wpAny_pure ?_
  show wpAny _ _ (handedOut (.ref D)) _ _ _
  rw [handedOut_of (v := .ref D) rfl]
  first
    | exact wpAny_pure (wpAny_pure h)
    | exact wpAny_pure h
    | exact wpAny_pure (wpAny_bind (wpAny_pure (wpAny_pure h)))
theorem kitx_excD (T : L2.ExcC K D) : KitX K (.ref x) (.ref D) (fun h => ∃ od, InstAt h x ox D od) where
  ty := fun _ _ _ I => by
    obtain ⟨_, I⟩ := I
    exact I.type
  it := fun M h X _ => by
    obtain ⟨cdD, hcD, _⟩ := any_some T.hd
    unfold clsIn at hcD
    split at hcD
    · rename_i c' d' cd' sl' ho
      intro A' Q' E' s' k q
      unfold isType loadHead
      exact wpAny_bind (wpAny_loadPart (k _ _ (X _ _ ho)) (wpAny_pure q))
    · cases hcD
  ne := fun h tp dd its n sl X htp => by
    obtain ⟨cdD, hcD, _⟩ := any_some T.hd
    refine Bool.eq_false_iff.mpr fun q => ?_
    have e : D = tp := Value.ref.inj (beq_iff_eq.mp q)
    subst e
    unfold clsIn at hcD
    split at hcD
    · rename_i c' d' cd' sl' ho
      have z := (X _ _ ho).symm.trans htp
      cases z
    · cases hcD
  ca := fun X I k => by
    obtain ⟨_, I⟩ := I
    exact kin_classD T X I k
end
end PySem.W
namespace L2
open PySem PySem.Spec PyProof.Rows
section
variable {X : Cx}
/-- isinstance(e, c), e the exception that the suite holds, with a dict or without -/
theorem call_isED {a D : Addr} {d : Option Addr} {oe : Obj} {pn : List (Addr × Obj)} (C : ExcC X.K D) (hz : Zc (.ref D) d oe) (hf : ∃ vs, oe.data = .fields vs) (hd : ∀ (pins : List (Addr × Obj)) (σ : St) (H : Hp) (s : Shared), Inv (X.suite a ((a, oe) :: pn)) pins σ H s → ∀ dd, d = some dd → ∃ od, s.heap.get? dd = some od) :
    CallR (X.suite a ((a, oe) :: pn)) (.builtin "isinstance") (rIsE X.K D a) := by
  intro pins s σ H xs us Q I r h
  obtain ⟨c, cv, b, rfl, hcv, e, q⟩ := h
  cases r with
  | cons rx rr =>
    cases rr with
    | cons rt rr =>
      cases rr
      cases rx
      have ec := hcv _ rt
      subst ec
      obtain ⟨hget, _⟩ := I.pin (a, oe) (List.mem_append.mpr (.inl List.mem_cons_self))
      obtain ⟨vs, hv⟩ := hf
      have J : ∃ od, PySem.W.InstAt s.heap a oe D od := by
        have hd' := hd pins σ H s I
        obtain ⟨oc, od, oda, osl⟩ := oe
        obtain ⟨h1, h2⟩ := hz
        dsimp only at h1 h2 hv
        subst h1 h2 hv
        cases od with
        | none => exact ⟨none, hget, rfl, rfl, trivial⟩
        | some dd =>
          obtain ⟨o, ho⟩ := hd' dd rfl
          exact ⟨some o, hget, rfl, rfl, ho⟩
      exact PySem.W.kia_one (PySem.W.kitx_excD C) I.kIn J e (fun z => nomatch z) fun tk => ⟨.bl b, H, I.kept (t' := tk) fun _ _ z => z, rfl, q⟩
/-- the same where the dict is tracked: the reading asks it -/
def rIsED (K : PySem.W.Frag) (D a : Addr) (cls : Value) (d : Option Addr) : List V → Hp → VK → Prop := fun xs H Q => cls = .ref D ∧ (∀ dd, d = some dd → ∃ fs, H dd = some (.xd fs)) ∧ ∃ (c : V) (cv : Value) (b : Bool), xs = [.ref a, c] ∧ (∀ u, RelV c u → u = cv) ∧ PySem.W.kitOne K (.ref D) cv = some b ∧ Q (.bl b) H
theorem call_isEX {a D : Addr} {cls : Value} {d : Option Addr} {oe : Obj} {pn : List (Addr × Obj)} (C : ExcC X.K D) (hz : Zc cls d oe) (hf : ∃ vs, oe.data = .fields vs) : CallR (X.suite a ((a, oe) :: pn)) (.builtin "isinstance") (rIsED X.K D a cls d) := by
  intro pins s σ H xs us Q I r h
  obtain ⟨ec0, hdd, c, cv, b, rfl, hcv, e, q⟩ := h
  subst ec0
  cases r with
  | cons rx rr =>
    cases rr with
    | cons rt rr =>
      cases rr
      cases rx
      have ec := hcv _ rt
      subst ec
      obtain ⟨hget, _⟩ := I.pin (a, oe) (List.mem_append.mpr (.inl List.mem_cons_self))
      obtain ⟨vs, hv⟩ := hf
      have J : ∃ od, PySem.W.InstAt s.heap a oe D od := by
        obtain ⟨oc, od, oda, osl⟩ := oe
        obtain ⟨h1, h2⟩ := hz
        dsimp only at h1 h2 hv
        subst h1 h2 hv
        cases od with
        | none => exact ⟨none, hget, rfl, rfl, trivial⟩
        | some dd =>
          obtain ⟨fs, hfs⟩ := hdd dd rfl
          obtain ⟨mA, hns, _⟩ := (show ObjOk X.prog X.w H s.heap dd (.xd fs) from I.hok dd _ hfs)
          obtain ⟨od, ho, _⟩ := lookIn_ns hns
          exact ⟨some od, hget, rfl, rfl, ho⟩
      exact PySem.W.kia_one (PySem.W.kitx_excD C) I.kIn J e (fun z => nomatch z) fun tk => ⟨.bl b, H, I.kept (t' := tk) fun _ _ z => z, rfl, q⟩
end
section
variable {X : Cx} {CX : CXT} {k : Nat} {f C : Addr} {fd : FuncData} {ps : List Str} {sp : Sp} {dvs : List V} {ds : List Value} {E : St → XK} {x m : Str} {p pos apos : Pos} {e o : Expr} {es : List Expr} {ta : TE} {t : TA}
/-- C(e, ..) where what is raised is wished for at the slots as they stand -/
def tMakeS (C : Addr) (sp : Sp) (dvs : List V) (E : St → XK) (t : TA) : TE := fun σ H Q => t σ H fun vs H1 => ∀ x dx, H1 x = none → H1 dx = none → dx ≠ x →
  sp (.ref x :: (vs ++ dvs)) (upd (upd H1 dx (.own x)) x (.ins C dx [])) (fun v H2 => v = .non ∧ Q (.ref x) H2) (fun cls d H2 => E σ cls d H2)
theorem run_makeS {pins : List (Addr × Obj)} {σ : St} {H : Hp} {s : Shared} {Q : VK} {us : List Value} {vs : List V} (M : Mk X.K C f) (F : FnOk X.prog X.w X.K X.mg X.base CX k f fd ps sp) (hr : Room (k + 1) X.A) (hb : Binds X.K fd ps ds) (hd : Vals dvs ds)
    (hx : PassesAt CX X σ (E σ)) (I : Inv X pins σ H s) (r : Vals vs us)
    (h : ∀ x dx, H x = none → H dx = none → dx ≠ x → sp (.ref x :: (vs ++ dvs)) (upd (upd H dx (.own x)) x (.ins C dx [])) (fun v H2 => v = .non ∧ Q (.ref x) H2) (E σ)) :
    wpAny (model X.prog X.w) X.A (call (.ref C) us) (EP X pins σ Q) X.xe s := by
  have hq := h (s.heap.objs.size + 1) s.heap.objs.size (I.hok.fresh (Nat.le_succ _)) (I.hok.fresh (Nat.le_refl _)) (Nat.ne_of_lt (Nat.lt_succ_self _))
  have I2 := Inv.made (C := C) I
  have r2 : Vals (V.ref (s.heap.objs.size + 1) :: (vs ++ dvs)) (Value.ref (s.heap.objs.size + 1) :: (us ++ ds)) := .cons rfl (r.append hd)
  have hl : (Value.ref (s.heap.objs.size + 1) :: us ++ ds).length = ps.length := by
    have e := r2.length
    rw [F.len _ _ _ _ hq] at e
    exact e.symm
  refine wpAny_call (make_map (f := f) I.kIn M.makes M.init (beq_iff_eq.mp M.fn) (codeAny_mono (F.run _ X.stack _ _ ⟨Value.ref (s.heap.objs.size + 1) :: us, []⟩ (Value.ref (s.heap.objs.size + 1) :: (us ++ ds)) _ _ (E σ) (hr.make C us [])
    (I2.env0.make C us []) (hb _ (Value.ref (s.heap.objs.size + 1) :: us) I2.kIn hl) r2 hq) fun r s' hq' => ?_))
  cases r with
  | error e => exact hx pins _ _ e s' I2 hq'
  | ok fl =>
    cases fl with
    | ret u =>
      obtain ⟨v, H', I3, rv, ev, q3⟩ := I2.after hq'
      subst ev
      exact ⟨rv, ⟨V.ref (s.heap.objs.size + 1), H', I3, rfl, q3⟩⟩
    | next => exact False.elim hq'
    | brk => exact False.elim hq'
    | cont => exact False.elim hq'
theorem pe_makeS (M : Mk X.K C f) (F : FnOk X.prog X.w X.K X.mg X.base CX k f fd ps sp) (hr : Room (k + 1) X.A) (hg : Gl X x) (hm : X.mg x = some (.ref C)) (hb : Binds X.K fd ps ds) (hd : Vals dvs ds) (hx : ∀ σ, PassesAt CX X σ (E σ))
    (ha : PA X (e :: es) t) (hdb : (x == ("__debug__" : Str)) = false := by decide) (he : starEach (e :: es) X.env = (false, eval e X.env) :: starEach es X.env := by rfl) (hpl : (backTo pos (starEach es X.env)).any (·.1) = false := by rfl) :
    PE X (.Call (.Name x p) (e :: es) [] pos) (tMakeS C sp dvs E t) := by
  refine ⟨fun pins s σ H Q I h => ?_⟩
  refine wpAny_Call_Name_kw (ld_glob I hg hm ?_ hdb)
  refine PySem.W.callWith_K (h₀ := X.base) I.ok.mod.kin M.kp (thn (ha.run pos pins s σ H _ I h) fun us s1 ⟨vs, H1, I1, r, q⟩ => ⟨I1.kIn, ?_⟩) he hpl
  exact run_makeS M F hr hb hd (hx σ) I1 r q
/-- o.m(e, ..) | o.m() likewise -/
def tMethSD (C : Addr) (m : Str) (sp : Sp) (dvs : List V) (E : St → XK) (ta : TE) (t : TA) : TE := fun σ H Q => ta σ H fun x H1 => ∃ a dx fs, x = .ref a ∧ H1 a = some (.ins C dx fs) ∧ fs.lookup m = none ∧
  t σ H1 fun vs H2 => sp (x :: (vs ++ dvs)) H2 Q (E σ)
theorem pe_methSD {pl : Sem Bool} (he : PE X o ta) (c : Cls X.K C) (hm : Meth X.K C m f) (F : FnOk X.prog X.w X.K X.mg X.base CX k f fd ps sp) (hr : Room k X.A) (hb : Binds X.K fd ps ds) (hd : Vals dvs ds) (hx : ∀ σ, PassesAt CX X σ (E σ)) (ha : PA X (e :: es) t)
    (hst : starEach (e :: es) X.env = (false, eval e X.env) :: starEach es X.env := by rfl) (hpl : (backTo pos (starEach es X.env)).any (·.1) = false := by rfl)
    (ht : eval (.Call (.Attribute o m apos) (e :: es) [] pos) X.env = (do
      let ov ← eval o X.env
      standAt apos.atName
      let (f, first) ← holding [ov] (getMethod ov m pl)
      callWith pos f first (backTo pos (starEach (e :: es) X.env)) (backToKw pos (keywordEach [] X.env))) := by rfl) :
    PE X (.Call (.Attribute o m apos) (e :: es) [] pos) (tMethSD C m sp dvs E ta t) := by
  refine ⟨fun pins s σ H Q I h => ?_⟩
  refine PySem.W.methodCall_KW (pl := pl) (thn (he.run pins s σ H _ I h) fun u s1 ⟨x, H1, I1, rx, a, dx, fs, ex, ea, l, q⟩ => ?_) ht
  subst ex
  obtain rfl : u = Value.ref a := rx
  refine getmeth_ok I1 ea c hm l ?_
  refine PySem.W.callWith_K (first := [.ref a]) (h₀ := X.base) I.ok.mod.kin hm.kp (thn (ha.run pos pins s1 σ H1 _ I1 q) fun us s2 ⟨vs, H2, I2, r, q2⟩ => ⟨I2.kIn, ?_⟩) hst hpl
  exact run_fnSD (us := .ref a :: us) (vs := .ref a :: vs) F hr hb hd (hx σ) I2 (.cons rfl r) q2
theorem pe_methSD0 {pl : Sem Bool} (he : PE X o ta) (c : Cls X.K C) (hm : Meth X.K C m f) (F : FnOk X.prog X.w X.K X.mg X.base CX k f fd ps sp) (hr : Room k X.A) (hb : Binds X.K fd ps ds) (hd : Vals dvs ds) (hx : ∀ σ, PassesAt CX X σ (E σ))
    (ht : eval (.Call (.Attribute o m apos) [] [] pos) X.env = (do
      let ov ← eval o X.env
      standAt apos.atName
      let (f, first) ← holding [ov] (getMethod ov m pl)
      callWith pos f first (backTo pos (starEach [] X.env)) (backToKw pos (keywordEach [] X.env))) := by rfl) :
    PE X (.Call (.Attribute o m apos) [] [] pos) (tMethSD C m sp dvs E ta tNil) := by
  refine ⟨fun pins s σ H Q I h => ?_⟩
  refine PySem.W.methodCall_KW (pl := pl) (thn (he.run pins s σ H _ I h) fun u s1 ⟨x, H1, I1, rx, a, dx, fs, ex, ea, l, q⟩ => ?_) ht
  subst ex
  obtain rfl : u = Value.ref a := rx
  refine getmeth_ok I1 ea c hm l ?_
  exact PySem.W.callWith_K0 (first := [.ref a]) I1.kIn hm.kp (run_fnSD (us := [.ref a]) (vs := [.ref a]) F hr hb hd (hx σ) I1 (.cons rfl .nil) q)
end

/-! ### own errors with one field -/
/-- what __init__ of such an error does: self.f = v -/
def spXI (C : Addr) (f : Str) : Sp := fun vs H Q _ => ∃ (a : Addr) (y : V), vs = [.ref a, y] ∧ H a = some (exo a C none) ∧ ∀ dx, H dx = none → dx ≠ a → Q .non (upd (upd H dx (exd dx [(f, y)])) a (exo a C (some dx)))
/-- all that is asked of the class x of errors at C, whose field is f -/
structure XCls (P : Program) (w : World) (K : PySem.W.Frag) (mg : Str → Option Value) (base : Heap) (x f : Str) (C : Addr) : Prop where
  ox : OexC K C
  gC : mg x = some (.ref C)
  noA : PySem.W.findIn K (.ref C) f = some none
  ec : ExcC K C
  ini : ∃ (fI : Addr) (fd : FuncData), PySem.W.findIn K (.ref C) "__init__" = some (some (.ref fI)) ∧ PySem.W.typeIn K (.ref fI) = some (.type "function") ∧ FnOk P w K mg base CX0 1 fI fd ["self", f] (spXI C f) ∧ Binds K fd ["self", f] []
theorem XCls.xf {P : Program} {w : World} {K : PySem.W.Frag} {mg : Str → Option Value} {base : Heap} {x f : Str} {C : Addr} (T : XCls P w K mg base x f C) : XfC K C := ⟨T.ec.hg, T.ec.hk, T.ec.hs, T.ec.hd⟩
section
variable {X : Cx} {C : Addr} {x f : Str} {e : Expr} {te : TE} {p pos pos2 : Pos}
theorem pmk_X (T : XCls X.prog X.w X.K X.mg X.base x f C) (hr : Room 2 X.A) (he : PE X e te) (hg : Gl X x) (hdb : (x == ("__debug__" : Str)) = false := by decide)
    (hs : starEach [e] X.env = (false, eval e X.env) :: starEach [] X.env := by rfl) (hpl : (backTo pos (starEach [] X.env)).any (·.1) = false := by rfl) :
    PMk X (.Call (.Name x p) [e] [] pos) (tMkO C (spXI C f) [] (tCons te tNil)) := by
  obtain ⟨fI, fd, i1, i2, F, b⟩ := T.ini
  exact pmk_oex (dvs := []) (ds := []) T.ox i1 i2 F hr b .nil pass0 hg T.gC (pa_cons he pa_nil hs) hdb hs hpl
/-- what is left to be shown behind the argument y -/
theorem mkX_fin {H1 : Hp} {y : V} {Q : XK} (h : ∀ d, H1 d = none → Q (.ref C) (some d) (upd H1 d (.xd [(f, y)]))) :
    [y].length ≤ 1000 ∧ ∀ a, H1 a = none → spXI C f (.ref a :: ([y] ++ [])) (upd H1 a (exo a C none))
      (fun v H2 => v = .non ∧ ∃ (d : Addr) (fs : List (Str × V)), H2 a = some (exo a C (some d)) ∧ H2 d = some (exd d fs) ∧ H1 d = none ∧ Q (.ref C) (some d) (upd (del H2 a) d (.xd fs))) (fun _ _ _ => False) := by
  refine ⟨by show 1 ≤ 1000; decide, fun a ha => ⟨a, y, rfl, upd_same, fun dx hdx hne => ⟨rfl, dx, [(f, y)], upd_same, ?_, ?_, ?_⟩⟩⟩
  · rw [upd_ne hne, upd_same]
  · rw [upd_ne hne] at hdx
    exact hdx
  · have hdx' : H1 dx = none := by
      rw [upd_ne hne] at hdx
      exact hdx
    have e : upd (del (upd (upd (upd H1 a (exo a C none)) dx (exd dx [(f, y)])) a (exo a C (some dx))) a) dx (.xd [(f, y)]) = upd H1 dx (.xd [(f, y)]) := by
      funext b
      by_cases hb : b = dx
      · rw [hb, upd_same, upd_same]
      · rw [upd_ne hb, upd_ne hb]
        by_cases hba : b = a
        · rw [hba, del_same, ha]
        · rw [del_ne hba, upd_ne hba, upd_ne hb, upd_ne hba]
    rw [e]
    exact h dx hdx'
end
end L2

set_option Elab.async false
set_option maxRecDepth 100000
set_option maxHeartbeats 4000000
namespace L2
open PySem PySem.Spec PyProof.Rows
section
variable (P : Program) (w : World) (K : PySem.W.Frag) (mg : Str → Option Value) (base : Heap)
/-- a def of the top, as the text has it -/
structure DefAt (x : Str) (st : Stmt) (ps : List Str) : Prop where
  ex : ∃ (f : Addr) (fd : FuncData), Fun K x x st f fd ∧ mg x = some (.ref f) ∧ Binds K fd ps []
/-- a def of the top that keeps its promise -/
structure Own (CX : CXT) (x : Str) (k : Nat) (ps : List Str) (sp : Sp) : Prop where
  ex : ∃ (f : Addr) (fd : FuncData), FnOk P w K mg base CX k f fd ps sp ∧ mg x = some (.ref f) ∧ PySem.W.keepIn K (.ref f) = true ∧ Binds K fd ps []
/-- a method of the class at C, as the text has it; one that keeps its promise -/
structure MethAt (C : Addr) (m qual : Str) (st : Stmt) (ps : List Str) : Prop where
  ex : ∃ (f : Addr) (fd : FuncData), Fun K m qual st f fd ∧ PySem.W.findIn K (.ref C) m = some (some (.ref f)) ∧ PySem.W.isFn K (.ref f) = true ∧ Binds K fd ps []
structure OwnM (CX : CXT) (C : Addr) (m : Str) (k : Nat) (ps : List Str) (sp : Sp) : Prop where
  ex : ∃ (f : Addr) (fd : FuncData), FnOk P w K mg base CX k f fd ps sp ∧ Meth K C m f ∧ PySem.W.isFn K (.ref f) = true ∧ Binds K fd ps []
/-- a class of the top with an own __init__ that keeps its promise -/
structure OwnC (CX : CXT) (x : Str) (C : Addr) (k : Nat) (ps : List Str) (sp : Sp) : Prop where
  ex : ∃ (f : Addr) (fd : FuncData), FnOk P w K mg base CX k f fd ps sp ∧ Mk K C f ∧ mg x = some (.ref C) ∧ Binds K fd ps []
end
section
variable {P : Program} {w : World} {K : PySem.W.Frag} {mg : Str → Option Value} {base : Heap} {CX : CXT} {x m qual : Str} {k : Nat} {ps : List Str} {sp : Sp} {st : Stmt} {C : Addr}
theorem DefAt.own (D : DefAt K mg x st ps) (h : ∀ f fd, Fun K x x st f fd → FnOk P w K mg base CX k f fd ps sp) : Own P w K mg base CX x k ps sp := by
  obtain ⟨f, fd, F, hm, hb⟩ := D.ex
  exact ⟨f, fd, h f fd F, hm, F.kp, hb⟩
theorem MethAt.own (D : MethAt K C m qual st ps) (h : ∀ f fd, Fun K m qual st f fd → FnOk P w K mg base CX k f fd ps sp) : OwnM P w K mg base CX C m k ps sp := by
  obtain ⟨f, fd, F, hm, hi, hb⟩ := D.ex
  exact ⟨f, fd, h f fd F, ⟨hm, hi, F.kp⟩, hi, hb⟩
theorem MethAt.cls (D : MethAt K C "__init__" qual st ps) (h : ∀ f fd, Fun K "__init__" qual st f fd → FnOk P w K mg base CX k f fd ps sp) (m1 : PySem.W.makesIn K C = true) (m2 : PySem.W.keepIn K (.ref C) = true) (m3 : mg x = some (.ref C)) :
    OwnC P w K mg base CX x C k ps sp := by
  obtain ⟨f, fd, F, hm, hi, hb⟩ := D.ex
  exact ⟨f, fd, h f fd F, ⟨m1, hm, hi, m2⟩, m3, hb⟩
end
section
variable {X : Cx} {CX : CXT} {x m : Str} {k : Nat} {ps : List Str} {sp : Sp} {e o : Expr} {es : List Expr} {t : TA} {ta : TE} {p pos apos : Pos} {C : Addr}
theorem pe_own (O : Own X.prog X.w X.K X.mg X.base CX x k ps sp) (hr : Room k X.A) (hx : Passes CX X E0) (ha : PA X (e :: es) t) (hg : Gl X x := by rfl) (hdb : (x == ("__debug__" : Str)) = false := by decide)
    (he : starEach (e :: es) X.env = (false, eval e X.env) :: starEach es X.env := by rfl) (hpl : (backTo pos (starEach es X.env)).any (·.1) = false := by rfl) : PE X (.Call (.Name x p) (e :: es) [] pos) (tCall sp [] E0 t) := by
  obtain ⟨f, fd, F, hm, hk, hb⟩ := O.ex
  exact pe_call F hr hg hm hk hb .nil hx ha hdb he hpl
theorem pe_own0 (O : Own X.prog X.w X.K X.mg X.base CX x k ps sp) (hr : Room k X.A) (hx : Passes CX X E0) (hg : Gl X x := by rfl) (hdb : (x == ("__debug__" : Str)) = false := by decide) : PE X (.Call (.Name x p) [] [] pos) (tCall sp [] E0 tNil) := by
  obtain ⟨f, fd, F, hm, hk, hb⟩ := O.ex
  exact pe_call0 F hr hg hm hk hb .nil hx hdb
/-- one that may raise; W is wished for what it raises -/
theorem pe_ownS {W : WX} (O : Own X.prog X.w X.K X.mg X.base (L2.CX X.prog X.w) x k ps sp) (hr : Room k X.A) (tk : Takes X W) (ha : PA X (e :: es) t) (hg : Gl X x := by rfl) (hdb : (x == ("__debug__" : Str)) = false := by decide)
    (he : starEach (e :: es) X.env = (false, eval e X.env) :: starEach es X.env := by rfl) (hpl : (backTo pos (starEach es X.env)).any (·.1) = false := by rfl) : PE X (.Call (.Name x p) (e :: es) [] pos) (tCallS sp (WE W) t) := by
  obtain ⟨f, fd, F, hm, hk, hb⟩ := O.ex
  exact pe_callS F hr hg hm hk hb (fun σ => passAt tk σ) ha hdb he hpl
theorem pe_new (O : OwnC X.prog X.w X.K X.mg X.base CX x C k ps sp) (hr : Room (k + 1) X.A) (hx : Passes CX X E0) (ha : PA X (e :: es) t) (hg : Gl X x := by rfl) (hdb : (x == ("__debug__" : Str)) = false := by decide)
    (he : starEach (e :: es) X.env = (false, eval e X.env) :: starEach es X.env := by rfl) (hpl : (backTo pos (starEach es X.env)).any (·.1) = false := by rfl) : PE X (.Call (.Name x p) (e :: es) [] pos) (tMake C sp [] E0 t) := by
  obtain ⟨f, fd, F, M, hm, hb⟩ := O.ex
  exact pe_make M F hr hg hm hb .nil hx ha hdb he hpl
theorem pe_newS {W : WX} (O : OwnC X.prog X.w X.K X.mg X.base (L2.CX X.prog X.w) x C k ps sp) (hr : Room (k + 1) X.A) (tk : Takes X W) (ha : PA X (e :: es) t) (hg : Gl X x := by rfl) (hdb : (x == ("__debug__" : Str)) = false := by decide)
    (he : starEach (e :: es) X.env = (false, eval e X.env) :: starEach es X.env := by rfl) (hpl : (backTo pos (starEach es X.env)).any (·.1) = false := by rfl) : PE X (.Call (.Name x p) (e :: es) [] pos) (tMakeS C sp [] (WE W) t) := by
  obtain ⟨f, fd, F, M, hm, hb⟩ := O.ex
  exact pe_makeS M F hr hg hm hb .nil (fun σ => passAt tk σ) ha hdb he hpl
theorem pe_gint {n : Int} (hm : ∃ t, X.mg x = some (.int n t)) (hg : Gl X x := by rfl) (hd : (x == ("__debug__" : Str)) = false := by decide) : PE X (.Name x pos) (tC (.int n)) := by
  obtain ⟨t, hm⟩ := hm
  exact pe_glob hg hm ⟨t, rfl⟩ hd
theorem pe_gcls (hm : X.mg x = some (.ref C)) (hg : Gl X x := by rfl) (hd : (x == ("__debug__" : Str)) = false := by decide) : PE X (.Name x pos) (tC (.ref C)) := pe_glob hg hm rfl hd
end
/-! ### ==, != by own methods, len -/
section
variable {X : Cx} {CX : CXT} {k : Nat} {C : Addr} {ps : List Str} {sp : Sp}
structure NeM (K : PySem.W.Frag) (C : Addr) : Prop where
  ne : PySem.W.findIn K (.ref C) "__ne__" = some (some (.builtin "object.__ne__"))
  ob : PySem.W.mroIn K C (.type "object") = some true
theorem eqO (O : OwnM X.prog X.w X.K X.mg X.base CX C "__eq__" k ps sp) (N : NeM X.K C) (hr : Room k X.A) (hx : Passes CX X E0) : OpR X (compareOp .Eq) (rEqO X.K C sp) := by
  obtain ⟨f, fd, F, M, hi, hb⟩ := O.ex
  exact op_eqO F ⟨M.at_, hi, N.ne, N.ob⟩ hr hb hx
theorem neO (O : OwnM X.prog X.w X.K X.mg X.base CX C "__eq__" k ps sp) (N : NeM X.K C) (hr : Room (k + 1) X.A) (hx : Passes CX X E0) : OpR X (compareOp .NotEq) (rNeO X.K C sp) := by
  obtain ⟨f, fd, F, M, hi, hb⟩ := O.ex
  exact op_neO F ⟨M.at_, hi, N.ne, N.ob⟩ hr hb hx
theorem lenO (O : OwnM X.prog X.w X.K X.mg X.base CX C "__len__" k ps sp) (hr : Room (k + 1) X.A) (hx : Passes CX X E0) : CallR X (.builtin "len") (rLenO C sp) := by
  obtain ⟨f, fd, F, M, hi, hb⟩ := O.ex
  exact call_lenO F M.at_ hi hr hb hx
end
end L2

set_option Elab.async false
set_option maxRecDepth 100000
set_option maxHeartbeats 4000000
/-! kinds of plain values; their isinstance -/
namespace L2
open PySem PySem.Spec PyProof.Rows
inductive Knd | int | bool | none | str | list | tuple
  deriving DecidableEq
def Knd.name : Knd → String
  | .int => "int" | .bool => "bool" | .none => "NoneType" | .str => "str" | .list => "list" | .tuple => "tuple"
def KndOf (H : Hp) (v : V) : Knd → Prop
  | .int => ∃ n, v = .int n
  | .bool => ∃ b, v = .bl b
  | .none => v = .non
  | .str => ∃ s, v = .str s
  | .list => ∃ a xs, v = .ref a ∧ H a = some (.lst xs)
  | .tuple => ∃ a xs, v = .ref a ∧ H a = some (.tup xs)
def Knd.isInt : Knd → Bool | .int => true | .bool => true | _ => false
def Knd.isBool : Knd → Bool | .bool => true | _ => false
def Knd.isSeq : Knd → Bool | .list => true | .tuple => true | _ => false
def Knd.isTup : Knd → Bool | .tuple => true | _ => false
def Knd.isList : Knd → Bool | .list => true | _ => false
def Knd.isStr : Knd → Bool | .str => true | _ => false
section
variable {K : PySem.W.Frag} {H : Hp} {v : V} {k : Knd}
theorem knd_ty (h : KndOf H v k) : TyX K H v (.type k.name) := by
  cases k with
  | int => obtain ⟨n, rfl⟩ := h; exact .base (.int n)
  | bool => obtain ⟨n, rfl⟩ := h; exact .base (.bl n)
  | none => cases h; exact .base .non
  | str => obtain ⟨n, rfl⟩ := h; exact .base (.str n)
  | list => obtain ⟨a, xs, rfl, e⟩ := h; exact .base (.lst e)
  | tuple => obtain ⟨a, xs, rfl, e⟩ := h; exact .base (.tup e)
theorem knd_int : PySem.W.kitOne K (.type k.name) (.type "int") = some k.isInt := by cases k <;> exact kit_ty (by decide +kernel)
theorem knd_bool : PySem.W.kitOne K (.type k.name) (.type "bool") = some k.isBool := by cases k <;> exact kit_ty (by decide +kernel)
theorem knd_tup : PySem.W.kitOne K (.type k.name) (.type "tuple") = some k.isTup := by cases k <;> exact kit_ty (by decide +kernel)
theorem knd_list : PySem.W.kitOne K (.type k.name) (.type "list") = some k.isList := by cases k <;> exact kit_ty (by decide +kernel)
theorem knd_str : PySem.W.kitOne K (.type k.name) (.type "str") = some k.isStr := by cases k <;> exact kit_ty (by decide +kernel)
theorem knd_seq : PySem.W.kitAny K (.type k.name) [.type "list", .type "tuple"] = some k.isSeq := by
  cases k
  case list => exact kitAny_cons knd_list (by intro h; cases h) (fun _ => rfl)
  case tuple => exact kitAny_cons knd_list (fun _ => kitAny_cons knd_tup (by intro h; cases h) (fun _ => rfl)) (by intro h; cases h)
  all_goals exact kitAny_cons knd_list (fun _ => kitAny_cons knd_tup (fun _ => kitAny_nil) (by intro h; cases h)) (by intro h; cases h)
theorem KndOf.ext {H' : Hp} (h : KndOf H v k) (e : Ext H H') : KndOf H' v k := by
  cases k with
  | list => obtain ⟨a, xs, r, q⟩ := h; exact ⟨a, xs, r, e _ _ q⟩
  | tuple => obtain ⟨a, xs, r, q⟩ := h; exact ⟨a, xs, r, e _ _ q⟩
  | _ => exact h
theorem ki (n : Int) : KndOf H (.int n) .int := ⟨n, rfl⟩
theorem kb (n : Bool) : KndOf H (.bl n) .bool := ⟨n, rfl⟩
theorem kn : KndOf H .non .none := rfl
theorem ks (n : Str) : KndOf H (.str n) .str := ⟨n, rfl⟩
end
/-- a value that is an int from a to b -/
def betw (v : V) (a b : Int) : Bool := match v with
  | .int n => decide (a ≤ n) && decide (n ≤ b)
  | _ => false
theorem betw_int {n a b : Int} : betw (.int n) a b = (decide (a ≤ n) && decide (n ≤ b)) := rfl
theorem betw_not {H : Hp} {v : V} {k : Knd} {a b : Int} (h : KndOf H v k) (hk : (k.isInt && !k.isBool) = false) : betw v a b = false := by
  cases k with
  | int => cases hk
  | bool => obtain ⟨n, rfl⟩ := h; rfl
  | none => cases h; rfl
  | str => obtain ⟨n, rfl⟩ := h; rfl
  | list => obtain ⟨n, xs, rfl, _⟩ := h; rfl
  | tuple => obtain ⟨n, xs, rfl, _⟩ := h; rfl
theorem knd_yes {k : Knd} (h : (k.isInt && !k.isBool) = true) : k = .int := by cases k <;> first | rfl | cases h
/-! ### isinstance, read -/
section
variable {K : PySem.W.Frag} {σ : St} {H : Hp} {v : V} {k : Knd} {Q : VK} {te : TE}
theorem v_isI (hk : KndOf H v k) {b : Bool} {c : String} (e : PySem.W.kitOne K (.type k.name) (.type c) = some b) (q : Q (.bl b) H) : rIsi K [v, .ty c] H Q :=
  ⟨v, .ty c, .type k.name, .type c, b, rfl, .ty c, knd_ty hk, e, q⟩
end
end L2

set_option Elab.async false
set_option maxRecDepth 100000
set_option maxHeartbeats 4000000
namespace L2
open PySem PySem.Spec PyProof.Rows
section
variable {K : PySem.W.Frag} {C : Addr}
theorem no_ref (l : List String) : (l.map Value.type).contains (Value.ref C) = false := by
  induction l with
  | nil => rfl
  | cons a l ih =>
    rw [List.map_cons, List.contains_cons, ih]
    rfl
theorem sub_ty_ref {T : String} (h : (fastFind? T).isSome = true) : PySem.W.subIn K (.type T) (.ref C) = some false := by
  obtain ⟨r, hr⟩ := Option.isSome_iff_exists.mp h
  show (fastBuiltinMro T).map (·.contains (Value.ref C)) = some false
  unfold fastBuiltinMro
  rw [hr]
  show some ((r.mro.map Value.type).contains (Value.ref C)) = some false
  rw [no_ref]
theorem knd_find (k : Knd) : (fastFind? k.name).isSome = true := by cases k <;> decide +kernel
/-- all that is asked of an own plain class x at C -/
structure ClsX (K : PySem.W.Frag) (mg : Str → Option Value) (x : Str) (C : Addr) : Prop where
  gC : mg x = some (.ref C)
  cl : Cls K C
  ha : PySem.W.findIn K (.ref C) "__class__" = some (some (.builtin "object.__class__"))
  hn : PySem.W.specialIn K (.builtin "object.__class__") "__get__" = some (some (.builtin "getset_descriptor.__get__"))
  htk : PySem.W.takesIn K (.builtin "object.__class__") = some true
  hm : PySem.W.mroIn K C (.type "object") = some true
  ne : PySem.W.findIn K (.ref C) "__ne__" = some (some (.builtin "object.__ne__"))
  is : PySem.W.isClsIn K C = true
  ty : PySem.W.typeIn K (.ref C) = some (.type "type")
  tup : PySem.W.subIn K (.ref C) (.type "tuple") = some false
  lst : PySem.W.subIn K (.ref C) (.type "list") = some false
  int : PySem.W.subIn K (.ref C) (.type "int") = some false
  str : PySem.W.subIn K (.ref C) (.type "str") = some false
variable {mg : Str → Option Value} {x : Str}
theorem ClsX.neM (T : ClsX K mg x C) : NeM K C := ⟨T.ne, T.hm⟩
theorem ClsX.tyOf (T : ClsX K mg x C) {H : Hp} {a dx : Addr} {fs : List (Str × V)} (e : H a = some (.ins C dx fs)) : TyX K H (.ref a) (.ref C) := .base (.ins e T.cl T.ha T.hn T.htk T.hm)
theorem ClsX.me (_ : ClsX K mg x C) : PySem.W.kitOne K (.ref C) (.ref C) = some true := if_pos (beq_self_eq_true _)
theorem ClsX.nfMe (_ : ClsX K mg x C) : PySem.W.notFirst K C (.ref C) = true := by
  show (Value.ref C == Value.ref C || _) = true
  rw [beq_self_eq_true]
  rfl
theorem ClsX.kitB (T : ClsX K mg x C) {t : Value} {b : Bool} (h : PySem.W.subIn K t (.ref C) = some b) (hne : (t == .ref C) = false) : PySem.W.kitOne K t (.ref C) = some b := by
  have e : ((PySem.W.clsIn K C).isSome && PySem.W.typeIn K (.ref C) == some (.type "type")) = true := by
    have h1 : (PySem.W.clsIn K C).isSome = true := T.is
    rw [h1, T.ty]
    rfl
  show (if (t == Value.ref C) = true then some true else if ((PySem.W.clsIn K C).isSome && PySem.W.typeIn K (.ref C) == some (.type "type")) = true then PySem.W.subIn K t (.ref C) else none) = some b
  rw [hne, if_neg Bool.false_ne_true, if_pos e]
  exact h
theorem ClsX.kitK (T : ClsX K mg x C) (k : Knd) : PySem.W.kitOne K (.type k.name) (.ref C) = some false := T.kitB (sub_ty_ref (knd_find k)) rfl
theorem ClsX.nfK (_ : ClsX K mg x C) (k : Knd) : PySem.W.notFirst K C (.type k.name) = true := by
  show (Value.type k.name == Value.ref C || PySem.W.subIn K (.type k.name) (.ref C) == some false) = true
  rw [sub_ty_ref (knd_find k)]
  exact Bool.or_eq_true_iff.mpr (.inr (by decide))
theorem kit_meta {T : String} {b : Bool} (h : PySem.W.subIn K (.ref C) (.type T) = some b) (hm : PySem.W.kitMeta T = true) : PySem.W.kitOne K (.ref C) (.type T) = some b := by
  show (if (Value.ref C == Value.type T) = true then some true else if PySem.W.kitMeta T = true then PySem.W.subIn K (.ref C) (.type T) else none) = some b
  rw [show (Value.ref C == Value.type T) = false from rfl, if_neg Bool.false_ne_true, if_pos hm]
  exact h
theorem ClsX.kTup (T : ClsX K mg x C) : PySem.W.kitOne K (.ref C) (.type "tuple") = some false := kit_meta T.tup (by decide +kernel)
theorem ClsX.kInt (T : ClsX K mg x C) : PySem.W.kitOne K (.ref C) (.type "int") = some false := kit_meta T.int (by decide +kernel)
theorem ClsX.kLst (T : ClsX K mg x C) : PySem.W.kitOne K (.ref C) (.type "list") = some false := kit_meta T.lst (by decide +kernel)
theorem ClsX.kStr (T : ClsX K mg x C) : PySem.W.kitOne K (.ref C) (.type "str") = some false := kit_meta T.str (by decide +kernel)
end
/-! ### an own error's class, from what the top has written -/
section
variable {P : Program} {w : World} {K : PySem.W.Frag} {mg : Str → Option Value} {base : Heap} {x f : Str} {C : Addr}
/-- what k_is finds of the class -/
structure XAt (K : PySem.W.Frag) (mg : Str → Option Value) (x f : Str) (C : Addr) (st : Stmt) (qual : Str) : Prop where
  ox : OexC K C
  gC : mg x = some (.ref C)
  noA : PySem.W.findIn K (.ref C) f = some none
  ec : ExcC K C
  tI : ∃ fI, PySem.W.findIn K (.ref C) "__init__" = some (some (.ref fI)) ∧ PySem.W.typeIn K (.ref fI) = some (.type "function") ∧ ∃ fd, Fun K "__init__" qual st fI fd ∧ Binds K fd ["self", f] []
theorem XAt.cls {st : Stmt} {qual : Str} (T : XAt K mg x f C st qual) (h : ∀ fI fd, Fun K "__init__" qual st fI fd → FnOk P w K mg base CX0 1 fI fd ["self", f] (spXI C f)) : XCls P w K mg base x f C := by
  obtain ⟨fI, i1, i2, fd, F, b⟩ := T.tI
  exact ⟨T.ox, T.gC, T.noA, T.ec, fI, fd, i1, i2, h fI fd F, b⟩
end
/-! ### fields -/
section
theorem lk_put {f g : Str} {v : V} {fs : List (Str × V)} : List.lookup g ((f, v) :: fs) = if (g == f) = true then some v else List.lookup g fs := by
  simp only [List.lookup]
  split
  · rename_i h; rw [h, if_pos rfl]
  · rename_i h; rw [h, if_neg Bool.false_ne_true]
end
end L2

set_option Elab.async false
set_option maxRecDepth 100000
set_option maxHeartbeats 4000000
/-! plain data: lists and tuples of flat values, compared -/
namespace L2
open PySem PySem.Spec PyProof.Rows
def pd : V → PyData
  | .int i => .int i
  | .bl b => .bool b
  | .str s => .str s
  | _ => .none
/-- flat, its text (if it is one) within the model's signs -/
def Fl : V → Prop
  | .int _ => True
  | .bl _ => True
  | .non => True
  | .str s => PySem.PyData.canLay0 (.str s) = true
  | _ => False
section
variable {K : PySem.W.Frag} {H : Hp} {v u : V}
theorem dp_fl (h : Fl v) : Dp K H v (pd v) := by
  cases v <;> first | exact .int _ | exact .bl _ | exact .str _ | exact .non | exact h.elim
theorem dp_all : ∀ {vs : List V}, (∀ v ∈ vs, Fl v) → DpAll K H vs (vs.map pd)
  | [], _ => .nil
  | v :: vs, h => .cons (dp_fl (h v List.mem_cons_self)) (dp_all fun u hu => h u (List.mem_cons_of_mem _ hu))
theorem lay_fl (h : Fl v) : (pd v).canLay0 = true := by
  cases v <;> first | rfl | exact h | exact h.elim
theorem dep_fl : (pd v).depth = 0 := by cases v <;> rfl
theorem lay_all : ∀ {vs : List V}, (∀ v ∈ vs, Fl v) → PyData.canLayAll0 (vs.map pd) = true ∧ PyData.depthAll (vs.map pd) = 0
  | [], _ => ⟨rfl, rfl⟩
  | v :: vs, h => by
    obtain ⟨a, b⟩ := lay_all (vs := vs) fun u hu => h u (List.mem_cons_of_mem _ hu)
    constructor
    · show ((pd v).canLay0 && PyData.canLayAll0 (vs.map pd)) = true
      rw [lay_fl (h v List.mem_cons_self), a]
      rfl
    · show max (pd v).depth (PyData.depthAll (vs.map pd)) = 0
      rw [dep_fl, b]
      rfl
theorem shp_fl (h : Fl v) : SeqAt.shaped (pd v) = true := by
  show ((pd v).canLay0 && decide ((pd v).depth ≤ 64)) = true
  rw [lay_fl h, dep_fl]
  rfl
theorem shp_tup {vs : List V} (h : ∀ v ∈ vs, Fl v) : SeqAt.shaped (.tuple (vs.map pd)) = true := by
  obtain ⟨a, b⟩ := lay_all h
  show (PyData.canLayAll0 (vs.map pd) && decide (PyData.depthAll (vs.map pd) + 1 ≤ 64)) = true
  rw [a, b]
  rfl
theorem shp_lst {vs : List V} (h : ∀ v ∈ vs, Fl v) : SeqAt.shaped (.list (vs.map pd)) = true := by
  obtain ⟨a, b⟩ := lay_all h
  show (PyData.canLayAll0 (vs.map pd) && decide (PyData.depthAll (vs.map pd) + 1 ≤ 64)) = true
  rw [a, b]
  rfl
theorem fl_int (n : Int) : Fl (.int n) := trivial
theorem fl_ints {ns : List Int} : ∀ v ∈ ns.map V.int, Fl v := fun v hv => by
  obtain ⟨n, _, rfl⟩ := List.mem_map.mp hv
  trivial
theorem eqv_ints : ∀ (ns ms : List Int), PyData.eqvAll ((ns.map V.int).map pd) ((ms.map V.int).map pd) = decide (ns = ms)
  | [], [] => rfl
  | [], _ :: _ => rfl
  | _ :: _, [] => rfl
  | n :: ns, m :: ms => by
    show ((n == m) && PyData.eqvAll ((ns.map V.int).map pd) ((ms.map V.int).map pd)) = decide (n :: ns = m :: ms)
    rw [eqv_ints ns ms, Bool.eq_iff_iff]
    simp
/-- the same values are equal data -/
theorem eqv_same : ∀ {vs : List V}, (∀ v ∈ vs, Fl v) → PyData.eqvAll (vs.map pd) (vs.map pd) = true
  | [], _ => rfl
  | v :: vs, h => by
    show (PyData.eqv (pd v) (pd v) && PyData.eqvAll (vs.map pd) (vs.map pd)) = true
    rw [eqv_same (vs := vs) fun u hu => h u (List.mem_cons_of_mem _ hu), Bool.and_true]
    cases v <;> first | rfl | (show (_ == _) = true; exact beq_self_eq_true _)
/-- two tuples compared (op_eqD, op_neD): what is left -/
theorem eqD_tup {p q : Addr} {vs us : List V} {Q : VK} (hp : SqT K H p vs) (hq : SqT K H q us) (fv : ∀ v ∈ vs, Fl v) (fu : ∀ v ∈ us, Fl v) (h : Q (.bl (PyData.eqvAll (vs.map pd) (us.map pd))) H) : rEqD K (.ref p) (.ref q) H Q :=
  ⟨_, _, .tup hp (dp_all fv), .tup hq (dp_all fu), shp_tup fv, shp_tup fu, h⟩
theorem neD_tup {p q : Addr} {vs us : List V} {Q : VK} (hp : SqT K H p vs) (hq : SqT K H q us) (fv : ∀ v ∈ vs, Fl v) (fu : ∀ v ∈ us, Fl v) (h : Q (.bl (!PyData.eqvAll (vs.map pd) (us.map pd))) H) : rNeD K (.ref p) (.ref q) H Q :=
  ⟨_, _, .tup hp (dp_all fv), .tup hq (dp_all fu), shp_tup fv, shp_tup fu, h⟩
theorem eqD_lst {p q : Addr} {vs us : List V} {Q : VK} (hp : SqL K H p vs) (hq : SqL K H q us) (fv : ∀ v ∈ vs, Fl v) (fu : ∀ v ∈ us, Fl v) (h : Q (.bl (PyData.eqvAll (vs.map pd) (us.map pd))) H) : rEqD K (.ref p) (.ref q) H Q :=
  ⟨_, _, .lst hp (dp_all fv), .lst hq (dp_all fu), shp_lst fv, shp_lst fu, h⟩
theorem neD_lst {p q : Addr} {vs us : List V} {Q : VK} (hp : SqL K H p vs) (hq : SqL K H q us) (fv : ∀ v ∈ vs, Fl v) (fu : ∀ v ∈ us, Fl v) (h : Q (.bl (!PyData.eqvAll (vs.map pd) (us.map pd))) H) : rNeD K (.ref p) (.ref q) H Q :=
  ⟨_, _, .lst hp (dp_all fv), .lst hq (dp_all fu), shp_lst fv, shp_lst fu, h⟩
end
end L2

set_option Elab.async false
set_option maxRecDepth 100000
set_option maxHeartbeats 4000000
namespace L2
open PySem PySem.Spec PyProof.Rows
section
variable {X : Cx}
/-- range(j), kept -/
theorem cr_range1 : CallR X (.type "range") (fun vs H Q => ∃ j, vs = [V.int j] ∧ ∀ p, H p = none → Q (.ref p) (upd H p (.rng 0 j))) := by
  intro pins s σ H vs us Q I r h
  obtain ⟨j, rfl, q⟩ := h
  obtain ⟨u1, rfl, rj⟩ := vals1 r
  obtain ⟨t, rfl⟩ := rj
  refine call_range_1 ⟨.ref s.heap.objs.size, upd H s.heap.objs.size (.rng 0 j), I.laid (t' := s.toks + 1 + 1) (fun b o e => Heap.get?_push_of_some _ e) (Nat.le_refl _) ?_, rfl, q _ (I.hok.fresh (Nat.le_refl _))⟩
  exact ⟨s.toks, t, s.toks + 1, Heap.get?_push_size _ rfl⟩
/-- len of a range -/
theorem call_lenR : CallR X (.builtin "len") (fun xs H Q => ∃ a lo hi, xs = [.ref a] ∧ H a = some (.rng lo hi) ∧ (hi - lo).toNat < 2 ^ 62 ∧ Q (.int ((hi - lo).toNat : Int)) H) := by
  intro pins s σ H xs us Q I r h
  obtain ⟨a, lo, hi, rfl, ha, hz, q⟩ := h
  rw [Vals.ref1 r]
  obtain ⟨t, u, v, ho⟩ := I.hok a _ ha
  exact call_len_range (n := (hi - lo).toNat) ho (rangeSize_nat lo hi) (by omega) ⟨.int ((hi - lo).toNat : Int), H, I.tok _, ⟨_, rfl⟩, q⟩
/-- sum of a tuple of ints -/
def rSumT (K : PySem.W.Frag) : List V → Hp → VK → Prop := fun vs H Q => ∃ (a : Addr) (ns : List Int), vs = [V.ref a] ∧ SqT K H a (ns.map V.int) ∧ Q (.int ns.sum) H
theorem cr_sumT (hc : X.calm = true) : CallR X (.builtin "sum") (rSumT X.K) := by
  intro pins s σ H vs us Q I r h
  obtain ⟨a, ns, rfl, hs, q⟩ := h
  obtain ⟨its, rv, hl, _⟩ := I.tuple hs
  rw [Vals.ref1 r]
  have hi := rv.ints
  obtain ⟨xs, e⟩ := hi.allInts.items
  have hn : numsOf (intItems xs).toList = ns := by rw [← e]; exact hi.numsOf
  rw [nums_intItems] at hn
  rw [e] at hl
  refine PySem.W.ktm_sumG (I.ok.hd hc) hl fun h' tk t' hk => ?_
  rw [preSum_eq, List.take_of_length_le (by simp), hn]
  exact ⟨.int ns.sum, H, I.kept hk, ⟨_, rfl⟩, q⟩
end
end L2

set_option Elab.async false
set_option maxRecDepth 100000
set_option maxHeartbeats 4000000
namespace L2
open PySem PySem.Spec PyProof.Rows
/-- a list or tuple at p of the items xs -/
def Sq (H : Hp) (p : Addr) (xs : List V) : Prop := H p = some (.lst xs) ∨ H p = some (.tup xs)
section
variable {K : PySem.W.Frag} {H H' : Hp} {p : Addr} {xs : List V}
theorem Sq.k (h : Sq H p xs) : ∃ k, KndOf H (.ref p) k ∧ k.isSeq = true := by
  rcases h with h | h
  · exact ⟨.list, ⟨p, xs, rfl, h⟩, rfl⟩
  · exact ⟨.tuple, ⟨p, xs, rfl, h⟩, rfl⟩
theorem Sq.ext (h : Sq H p xs) (e : Ext H H') : Sq H' p xs := h.imp (e _ _) (e _ _)
theorem Sq.l (h : Sq H p xs) : SqL K H p xs ∨ SqT K H p xs := h.imp SqL.of SqT.of
theorem ext_mut {D : Addr} {o : HO} (e : Ext H H') (h : H D = none) : Ext H (upd H' D o) := fun a u ha => by
  rw [upd_ne (ne_of_none ha h)]
  exact e a u ha
theorem ext_none {D : Addr} (e : Ext H H') (h : H' D = none) : H D = none := by
  cases h1 : H D with
  | none => rfl
  | some o =>
    rw [e D o h1] at h
    cases h
end
section
variable {X : Cx} {tg : Expr}
/-- a list or a tuple is walked -/
def iSq (K : PySem.W.Frag) (tl : TE) : TI := fun σ H R => tl σ H fun x H1 => ∃ a, x = .ref a ∧ (((∃ xs, SqL K H1 a xs) ∧ R (Itl K a) H1) ∨ ((∃ xs, SqT K H1 a xs) ∧ R (Itt K a) H1))
theorem pi_sq {l : Expr} {tl : TE} (hl : PE X l tl) : PI X tg l (iSq X.K tl) := by
  refine ⟨fun pins s σ H R I h => ?_⟩
  refine thn (hl.run pins s σ H _ I h) fun v s1 ⟨x, H1, I1, r1, q1⟩ => ?_
  obtain ⟨a, e, q1⟩ := q1
  subst e
  cases r1
  rcases q1 with ⟨⟨xs, hq⟩, q⟩ | ⟨⟨xs, hq⟩, q⟩
  · obtain ⟨its, rv, p, hz⟩ := I1.list hq
    refine wpAny_pyIter_list p.isList ?_
    refine ⟨s1.heap.objs.size, [s1.heap.objs.size], _, _, H1, rfl, I1.kept (t' := s1.toks) fun b o e => Heap.get?_push_of_some _ e, turn_list a _, ⟨_, Heap.get?_push_size _ rfl, rfl, rfl⟩, fun b hb => ?_, q⟩
    have e : b = s1.heap.objs.size := by simpa using hb
    subst e
    exact I1.fpOk (Nat.le_refl _) (I1.hok.fresh (Nat.le_refl _))
  · obtain ⟨its, rv, p, hz⟩ := I1.tuple hq
    refine wpAny_pyIter_tuple (show s1.heap.IsTuple a its.toArray from p) ?_
    refine ⟨s1.heap.objs.size, [s1.heap.objs.size], _, _, H1, rfl, I1.kept (t' := s1.toks) fun b o e => Heap.get?_push_of_some _ e, turn_tuple a _, ⟨_, Heap.get?_push_size _ rfl, rfl, rfl⟩, fun b hb => ?_, q⟩
    have e : b = s1.heap.objs.size := by simpa using hb
    subst e
    exact I1.fpOk (Nat.le_refl _) (I1.hok.fresh (Nat.le_refl _))
end
section
variable {K : PySem.W.Frag} {σ : St} {H : Hp} {p : Addr} {xs : List V} {te : TE} {tt : TT} {j : Nat} {vs : List Nat} {Q : VK}
theorem take_snoc {α : Type} {l : List α} {i : Nat} {x : α} (h : l[i]? = some x) : l.take (i + 1) = l.take i ++ [x] := by
  rw [List.take_add_one, h]
  rfl
/-- [f(x) for x in xs if b(x)], what is tested and made only adding to the heap: the reading behind the source's own -/
theorem lc_sqR {Qd : Addr → Hp → Prop} {f : V → V} {b : V → Bool} (hx : Sq H p xs) (hz : xs.length < sizeLine) (hw : ∀ x, wipe ((wipe σ vs).set j (some x)) vs = wipe σ vs)
    (ht : ∀ x ∈ xs, ∀ H', Ext H H' → ∀ Q : Bool → Hp → Prop, (∀ H'', Ext H' H'' → Q (b x) H'') → tt ((wipe σ vs).set j (some x)) H' Q)
    (he : ∀ x ∈ xs, b x = true → ∀ H', Ext H H' → ∀ Q : VK, (∀ H'', Ext H' H'' → Q (f x) H'') → te ((wipe σ vs).set j (some x)) H' Q)
    (q : ∀ D H', H D = none → Ext H H' → H' D = some (.lst ((xs.filter b).map f)) → Qd D H') :
    ((∃ xs, SqL K H p xs) ∧ (fun J H1 => ∀ D, H1 D = none → ∃ W : Nat → Nat → Hp → Prop, (∃ m, W 0 m (upd H1 D (.lst []))) ∧ ∀ i m H, W i m H →
      (J.stop i H ∧ Qd D H) ∨ (J.go i H ∧ ∃ Nx : Hp → Prop, (∀ H', Nx H' → ∃ m', m' < m ∧ W (i + 1) m' H') ∧ ∀ x H', J.yld i H x H' → gName j x (wipe σ vs) H' fun σ2 H2 => wipe σ2 vs = wipe σ vs ∧ tt σ2 H2 fun b H3 =>
        if b = true then te σ2 H3 fun y H4 => ∃ acc, H4 D = some (.lst acc) ∧ acc.length < sizeLine ∧ Nx (upd H4 D (.lst (acc ++ [y]))) else Nx H3)) (Itl K p) H) ∨
    ((∃ xs, SqT K H p xs) ∧ (fun J H1 => ∀ D, H1 D = none → ∃ W : Nat → Nat → Hp → Prop, (∃ m, W 0 m (upd H1 D (.lst []))) ∧ ∀ i m H, W i m H →
      (J.stop i H ∧ Qd D H) ∨ (J.go i H ∧ ∃ Nx : Hp → Prop, (∀ H', Nx H' → ∃ m', m' < m ∧ W (i + 1) m' H') ∧ ∀ x H', J.yld i H x H' → gName j x (wipe σ vs) H' fun σ2 H2 => wipe σ2 vs = wipe σ vs ∧ tt σ2 H2 fun b H3 =>
        if b = true then te σ2 H3 fun y H4 => ∃ acc, H4 D = some (.lst acc) ∧ acc.length < sizeLine ∧ Nx (upd H4 D (.lst (acc ++ [y]))) else Nx H3)) (Itt K p) H) := by
  have turn : ∀ (D : Addr), H D = none → ∀ i x H', xs[i]? = some x → (Ext H H' ∧ H' D = some (.lst (((xs.take i).filter b).map f))) → gName j x (wipe σ vs) H' fun σ2 H2 => wipe σ2 vs = wipe σ vs ∧ tt σ2 H2 fun b' H3 =>
      if b' = true then te σ2 H3 fun y H4 => ∃ acc, H4 D = some (.lst acc) ∧ acc.length < sizeLine ∧ (Ext H (upd H4 D (.lst (acc ++ [y]))) ∧ upd H4 D (.lst (acc ++ [y])) D = some (.lst (((xs.take (i + 1)).filter b).map f))) else (Ext H H3 ∧ H3 D = some (.lst (((xs.take (i + 1)).filter b).map f))) := by
    intro D hD i x H' hi pv
    obtain ⟨e, hl⟩ := pv
    have hm : x ∈ xs := List.mem_of_getElem? hi
    refine ⟨hw x, ht x hm H' e _ fun H3 e3 => ?_⟩
    have hl3 : H3 D = some (.lst (((xs.take i).filter b).map f)) := e3 _ _ hl
    cases hb : b x with
    | true =>
      refine iteT (he x hm hb H3 (e.trans e3) _ fun H4 e4 => ⟨_, e4 _ _ hl3, ?_, ext_mut ((e.trans e3).trans e4) hD, ?_⟩)
      · rw [List.length_map]
        refine Nat.lt_of_le_of_lt (Nat.le_trans (List.length_filter_le _ _) ?_) hz
        exact List.length_take_le' _ _
      · rw [upd_same, take_snoc hi, List.filter_append, List.map_append]
        simp [hb]
    | false =>
      refine iteF ⟨e.trans e3, ?_⟩
      rw [hl3, take_snoc hi, List.filter_append, List.map_append]
      simp [hb]
  have fin : ∀ D, H D = none → ∀ H', (Ext H H' ∧ H' D = some (.lst (((xs.take xs.length).filter b).map f))) → Qd D H' := fun D hD H' pv => by
    rw [List.take_length] at pv
    exact q D H' hD pv.1 pv.2
  rcases hx with hx | hx
  · refine .inl ⟨⟨xs, SqL.of hx⟩, fun D hD => lc_list (xs := xs) (fun i H' => Ext H H' ∧ H' D = some (.lst (((xs.take i).filter b).map f))) ⟨Ext.upd hD, upd_same⟩ (fun i H' _ pv => SqL.of (pv.1 _ _ hx)) (fun i x H' hi pv => turn D hD i x H' hi pv) (fun H' pv => fin D hD H' pv)⟩
  · refine .inr ⟨⟨xs, SqT.of hx⟩, fun D hD => lc_tup (xs := xs) (fun i H' => Ext H H' ∧ H' D = some (.lst (((xs.take i).filter b).map f))) ⟨Ext.upd hD, upd_same⟩ (fun i H' _ pv => SqT.of (pv.1 _ _ hx)) (fun i x H' hi pv => turn D hD i x H' hi pv) (fun H' pv => fin D hD H' pv)⟩
end
theorem filter_all {α : Type} (l : List α) : l.filter (fun _ => true) = l := List.filter_eq_self.mpr fun _ _ => rfl
end L2

set_option Elab.async false
set_option maxRecDepth 100000
set_option maxHeartbeats 4000000
namespace K22
open PySem PySem.Spec PyProof.Rows L2
def top (i : Nat) : Stmt := PySem.Challenge.pw_wholeline_k22_turns_and_loads_built.main.body.getD i (.Pass ⟨0, 0, 0, 0⟩)
abbrev s_BadPart_init : Stmt := inClass (top 3) 0
abbrev nm_BadPart_init : List Str := ["self", "part"]
abbrev pm_BadPart_init : List Str := ["self", "part"]
theorem sc_BadPart_init : FnScope nm_BadPart_init pm_BadPart_init (defScope s_BadPart_init) := ⟨rfl, rfl, rfl, by decide +kernel, rfl, by decide +kernel, by decide +kernel⟩

abbrev s_is_integer : Stmt := top 6
abbrev nm_is_integer : List Str := ["value"]
abbrev pm_is_integer : List Str := ["value"]
theorem sc_is_integer : FnScope nm_is_integer pm_is_integer (defScope s_is_integer) := ⟨rfl, rfl, rfl, by decide +kernel, rfl, by decide +kernel, by decide +kernel⟩

abbrev s_is_between : Stmt := top 7
abbrev nm_is_between : List Str := ["value", "low", "high"]
abbrev pm_is_between : List Str := ["value", "low", "high"]
theorem sc_is_between : FnScope nm_is_between pm_is_between (defScope s_is_between) := ⟨rfl, rfl, rfl, by decide +kernel, rfl, by decide +kernel, by decide +kernel⟩

abbrev s_is_list : Stmt := top 8
abbrev nm_is_list : List Str := ["value"]
abbrev pm_is_list : List Str := ["value"]
theorem sc_is_list : FnScope nm_is_list pm_is_list (defScope s_is_list) := ⟨rfl, rfl, rfl, by decide +kernel, rfl, by decide +kernel, by decide +kernel⟩

abbrev s_is_list_of : Stmt := top 9
abbrev nm_is_list_of : List Str := ["value", "low", "high"]
abbrev pm_is_list_of : List Str := ["value", "low", "high"]
theorem sc_is_list_of : FnScope nm_is_list_of pm_is_list_of (defScope s_is_list_of) := ⟨rfl, rfl, rfl, by decide +kernel, rfl, by decide +kernel, by decide +kernel⟩

abbrev s_are_rows : Stmt := top 18
abbrev nm_are_rows : List Str := ["value", "row"]
abbrev pm_are_rows : List Str := ["value"]
theorem sc_are_rows : FnScope nm_are_rows pm_are_rows (defScope s_are_rows) := ⟨rfl, rfl, rfl, by decide +kernel, rfl, by decide +kernel, by decide +kernel⟩

abbrev s_Turn_init : Stmt := inClass (top 17) 0
abbrev nm_Turn_init : List Str := ["self", "least", "most", "turn", "numbers"]
abbrev pm_Turn_init : List Str := ["self", "least", "most", "turn", "numbers"]
theorem sc_Turn_init : FnScope nm_Turn_init pm_Turn_init (defScope s_Turn_init) := ⟨rfl, rfl, rfl, by decide +kernel, rfl, by decide +kernel, by decide +kernel⟩

abbrev s_Turn_eq : Stmt := inClass (top 17) 1
abbrev nm_Turn_eq : List Str := ["self", "other"]
abbrev pm_Turn_eq : List Str := ["self", "other"]
theorem sc_Turn_eq : FnScope nm_Turn_eq pm_Turn_eq (defScope s_Turn_eq) := ⟨rfl, rfl, rfl, by decide +kernel, rfl, by decide +kernel, by decide +kernel⟩

abbrev s_Load_init : Stmt := inClass (top 19) 0
abbrev nm_Load_init : List Str := ["self", "rows", "quiet"]
abbrev pm_Load_init : List Str := ["self", "rows", "quiet"]
theorem sc_Load_init : FnScope nm_Load_init pm_Load_init (defScope s_Load_init) := ⟨rfl, rfl, rfl, by decide +kernel, rfl, by decide +kernel, by decide +kernel⟩

abbrev s_Load_len : Stmt := inClass (top 19) 2
abbrev nm_Load_len : List Str := ["self"]
abbrev pm_Load_len : List Str := ["self"]
theorem sc_Load_len : FnScope nm_Load_len pm_Load_len (defScope s_Load_len) := ⟨rfl, rfl, rfl, by decide +kernel, rfl, by decide +kernel, by decide +kernel⟩

abbrev s_Load_eq : Stmt := inClass (top 19) 3
abbrev nm_Load_eq : List Str := ["self", "other"]
abbrev pm_Load_eq : List Str := ["self", "other"]
theorem sc_Load_eq : FnScope nm_Load_eq pm_Load_eq (defScope s_Load_eq) := ⟨rfl, rfl, rfl, by decide +kernel, rfl, by decide +kernel, by decide +kernel⟩

abbrev s__law_box : Stmt := top 21
abbrev nm__law_box : List Str := ["_law_script"]
abbrev pm__law_box : List Str := ["_law_script"]
theorem sc__law_box : FnScope nm__law_box pm__law_box (defScope s__law_box) := ⟨rfl, rfl, rfl, by decide +kernel, rfl, by decide +kernel, by decide +kernel⟩

abbrev s__law_draw : Stmt := top 22
abbrev nm__law_draw : List Str := ["_law_box_here", "_law_limit", "_law_cell", "_law_value_here"]
abbrev pm__law_draw : List Str := ["_law_box_here", "_law_limit"]
theorem sc__law_draw : FnScope nm__law_draw pm__law_draw (defScope s__law_draw) := ⟨rfl, rfl, rfl, by decide +kernel, rfl, by decide +kernel, by decide +kernel⟩

abbrev s__law_value : Stmt := top 23
abbrev nm__law_value : List Str := ["_law_box_here", "_law_least", "_law_most", "_law_kind"]
abbrev pm__law_value : List Str := ["_law_box_here", "_law_least", "_law_most"]
theorem sc__law_value : FnScope nm__law_value pm__law_value (defScope s__law_value) := ⟨rfl, rfl, rfl, by decide +kernel, rfl, by decide +kernel, by decide +kernel⟩

abbrev s__law_fits : Stmt := top 24
abbrev nm__law_fits : List Str := ["_law_value_here", "_law_least", "_law_most"]
abbrev pm__law_fits : List Str := ["_law_value_here", "_law_least", "_law_most"]
theorem sc__law_fits : FnScope nm__law_fits pm__law_fits (defScope s__law_fits) := ⟨rfl, rfl, rfl, by decide +kernel, rfl, by decide +kernel, by decide +kernel⟩

abbrev s__law_turn_due : Stmt := top 25
abbrev nm__law_turn_due : List Str := ["_law_values"]
abbrev pm__law_turn_due : List Str := ["_law_values"]
theorem sc__law_turn_due : FnScope nm__law_turn_due pm__law_turn_due (defScope s__law_turn_due) := ⟨rfl, rfl, rfl, by decide +kernel, rfl, by decide +kernel, by decide +kernel⟩

abbrev s__law_load_due : Stmt := top 26
abbrev nm__law_load_due : List Str := ["_law_rows", "_law_quiet", "_law_count"]
abbrev pm__law_load_due : List Str := ["_law_rows", "_law_quiet"]
theorem sc__law_load_due : FnScope nm__law_load_due pm__law_load_due (defScope s__law_load_due) := ⟨rfl, rfl, rfl, by decide +kernel, rfl, by decide +kernel, by decide +kernel⟩

abbrev s__law_made : Stmt := top 27
abbrev nm__law_made : List Str := ["_law_kind", "_law_values", "e"]
abbrev pm__law_made : List Str := ["_law_kind", "_law_values"]
theorem sc__law_made : FnScope nm__law_made pm__law_made (defScope s__law_made) := ⟨rfl, rfl, rfl, by decide +kernel, rfl, by decide +kernel, by decide +kernel⟩

abbrev s__law_turns : Stmt := top 28
abbrev nm__law_turns : List Str := ["_law_box_here", "_law_values", "_law_due", "_law_made_here", "_law_other", "_law_place"]
abbrev pm__law_turns : List Str := ["_law_box_here"]
theorem sc__law_turns : FnScope nm__law_turns pm__law_turns (defScope s__law_turns) := ⟨rfl, rfl, rfl, by decide +kernel, rfl, by decide +kernel, by decide +kernel⟩

abbrev s__law_loads : Stmt := top 29
abbrev nm__law_loads : List Str := ["_law_box_here", "_law_rows", "_law_kept", "_law_quiet", "_law_due", "_law_made_here", "_law_same", "_law_k"]
abbrev pm__law_loads : List Str := ["_law_box_here"]
theorem sc__law_loads : FnScope nm__law_loads pm__law_loads (defScope s__law_loads) := ⟨rfl, rfl, rfl, by decide +kernel, rfl, by decide +kernel, by decide +kernel⟩

abbrev s_law : Stmt := top 30
abbrev nm_law : List Str := ["_law_script", "_law_box_here", "_law_k"]
abbrev pm_law : List Str := ["_law_script"]
theorem sc_law : FnScope nm_law pm_law (defScope s_law) := ⟨rfl, rfl, rfl, by decide +kernel, rfl, by decide +kernel, by decide +kernel⟩

structure Ad where
  (BadPart WholeError BadIndex Turn Load : Addr)
structure Txt (K : PySem.W.Frag) (mg : Str → Option Value) (A : Ad) : Prop where
  n_isinstance : mg "isinstance" = none
  n_int : mg "int" = none
  n_bool : mg "bool" = none
  n_list : mg "list" = none
  n_tuple : mg "tuple" = none
  n_len : mg "len" = none
  n_all : mg "all" = none
  n_range : mg "range" = none
  n_sum : mg "sum" = none
  n_abs : mg "abs" = none
  n_ValueError : mg "ValueError" = none
  g_MOST_DELAY : ∃ t, mg "MOST_DELAY" = some (.int 50 t)
  g_MOST_TURN : ∃ t, mg "MOST_TURN" = some (.int 200 t)
  g_MOST_NUMBERS : ∃ t, mg "MOST_NUMBERS" = some (.int 8 t)
  g_MOST_ROWS : ∃ t, mg "MOST_ROWS" = some (.int 3 t)
  g_MOST_PARCELS : ∃ t, mg "MOST_PARCELS" = some (.int 600 t)
  g_MOST_QUIET : ∃ t, mg "MOST_QUIET" = some (.int 500 t)
  Turn : ClsX K mg "Turn" A.Turn
  Load : ClsX K mg "Load" A.Load
  t_least : NoAttr K A.Turn "least"
  t_most : NoAttr K A.Turn "most"
  t_turn : NoAttr K A.Turn "turn"
  t_numbers : NoAttr K A.Turn "numbers"
  l_rows : NoAttr K A.Load "rows"
  l_quiet : NoAttr K A.Load "quiet"
  BadPart : XAt K mg "BadPart" "part" A.BadPart s_BadPart_init "BadPart.__init__"
  g_WholeError : mg "WholeError" = some (.ref A.WholeError)
  g_BadIndex : mg "BadIndex" = some (.ref A.BadIndex)
  x_whole : PySem.W.kitOne K (.ref A.BadPart) (.ref A.WholeError) = some true
  x_value : PySem.W.kitOne K (.ref A.BadPart) (.type "ValueError") = some true
  x_index : PySem.W.kitOne K (.ref A.BadPart) (.ref A.BadIndex) = some false
  x_te : PySem.W.exmOne K (.ref A.BadPart) (.ref A.BadPart) = some true
section
variable {P : Program} {w : World} {K : PySem.W.Frag} {mg : Str → Option Value} {base : Heap} {A : Ad}
theorem ok_xi {f : Addr} {fd : FuncData} (F : Fun K "__init__" "BadPart.__init__" s_BadPart_init f fd) (T : Txt K mg A) : FnOk P w K mg base CX0 1 f fd ["self", "part"] (spXI A.BadPart "part") := by
  refine F.ok sc_BadPart_init (fun vs H Q E h => ?_) (fun cdv A' outer s H vs Q E hr h => ?_)
  · obtain ⟨a, y, rfl, _⟩ := h
    rfl
  · obtain ⟨a, y, rfl, ha, q⟩ := h
    refine ⟨_, pss_one (ps_ost (pv 0) (pv 1)), ?_⟩
    exact ⟨_, rfl, _, rfl, a, A.BadPart, rfl, T.BadPart.ox, T.BadPart.noA, .inl ⟨ha, fun dx h1 h2 => q dx h1 h2⟩⟩
theorem xBadPart (T : Txt K mg A) : XCls P w K mg base "BadPart" "part" A.BadPart := T.BadPart.cls fun _ _ F => ok_xi F T
/-! is_integer, is_between, is_list, is_list_of -/
def spInteger : Sp := fun vs H Q _ => ∃ v k, vs = [v] ∧ KndOf H v k ∧ Q (.bl (k.isInt && !k.isBool)) H
theorem ok_integer {f : Addr} {fd : FuncData} (F : Fun K "is_integer" "is_integer" s_is_integer f fd) (T : Txt K mg A) : FnOk P w K mg base CX0 1 f fd pm_is_integer spInteger := by
  refine F.ok sc_is_integer (fun vs H Q E h => ?_) (fun cdv A' outer s H vs Q E hr h => ?_)
  · obtain ⟨v, k, rfl, _⟩ := h
    rfl
  · obtain ⟨v, k, rfl, hk, q⟩ := h
    refine ⟨_, pss_one (ps_ret (pe_and (pe_callB call_isi (by rfl) T.n_isinstance (by decide +kernel) (pa_cons (pv 0) (pa_cons (pe_bltn (v := .ty "int") (by rfl) T.n_int (by decide +kernel) rfl) pa_nil))) (pe_one (pe_not (pe_callB call_isi (by rfl) T.n_isinstance (by decide +kernel) (pa_cons (pv 0) (pa_cons (pe_bltn (v := .ty "bool") (by rfl) T.n_bool (by decide +kernel) rfl) pa_nil))))))), ?_⟩
    refine ⟨v, rfl, v, .ty "int", .type k.name, .type "int", k.isInt, rfl, .ty _, knd_ty hk, knd_int, _, rfl, ?_⟩
    cases h1 : k.isInt with
    | true =>
      rw [h1] at q
      exact iteT ⟨v, rfl, v, .ty "bool", .type k.name, .type "bool", k.isBool, rfl, .ty _, knd_ty hk, knd_bool, _, rfl, q⟩
    | false =>
      rw [h1] at q
      exact iteF q
def spBetween : Sp := fun vs H Q _ => ∃ v k a b, vs = [v, .int a, .int b] ∧ KndOf H v k ∧ Q (.bl (betw v a b)) H
theorem ok_between {f : Addr} {fd : FuncData} (F : Fun K "is_between" "is_between" s_is_between f fd) (O_is_integer : Own P w K mg base CX0 "is_integer" 1 pm_is_integer spInteger) : FnOk P w K mg base CX0 2 f fd pm_is_between spBetween := by
  refine F.ok sc_is_between (fun vs H Q E h => ?_) (fun cdv A' outer s H vs Q E hr h => ?_)
  · obtain ⟨v, k, a, b, rfl, _⟩ := h
    rfl
  · obtain ⟨v, k, a, b, rfl, hk, q⟩ := h
    refine ⟨_, pss_one (ps_ret (pe_and (pe_own O_is_integer (hr.mono (by decide)) pass0 (pa_cons (pv 0) pa_nil)) (pe_one (pe_chain op_le op_le (pv 1) (pv 0) (pv 2))))), ?_⟩
    refine ⟨v, rfl, v, k, rfl, hk, _, rfl, ?_⟩
    cases h1 : (k.isInt && !k.isBool) with
    | true =>
      cases knd_yes h1
      obtain ⟨n, rfl⟩ := hk
      refine iteT ⟨_, rfl, _, rfl, _, _, rfl, rfl, _, rfl, ?_⟩
      rw [betw_int] at q
      cases h2 : decide (a ≤ n) with
      | true =>
        rw [h2] at q
        exact iteT ⟨_, rfl, _, _, rfl, rfl, q⟩
      | false =>
        rw [h2] at q
        exact iteF q
    | false =>
      rw [betw_not hk h1] at q
      exact iteF q
def spIsList : Sp := fun vs H Q _ => ∃ v k, vs = [v] ∧ KndOf H v k ∧ ∀ H', Ext H H' → Q (.bl k.isSeq) H'
theorem ok_isList {f : Addr} {fd : FuncData} (F : Fun K "is_list" "is_list" s_is_list f fd) (T : Txt K mg A) : FnOk P w K mg base CX0 1 f fd pm_is_list spIsList := by
  refine F.ok sc_is_list (fun vs H Q E h => ?_) (fun cdv A' outer s H vs Q E hr h => ?_)
  · obtain ⟨v, k, rfl, _⟩ := h
    rfl
  · obtain ⟨v, k, rfl, hk, q⟩ := h
    refine ⟨_, pss_one (ps_ret (pe_callB call_isiT (by rfl) T.n_isinstance (by decide +kernel) (pa_cons (pv 0) (pa_cons (pe_tup (pa_cons (pe_bltn (v := .ty "list") (by rfl) T.n_list (by decide +kernel) rfl) (pa_cons (pe_bltn (v := .ty "tuple") (by rfl) T.n_tuple (by decide +kernel) rfl) pa_nil))) pa_nil)))), ?_⟩
    refine ⟨v, rfl, by show 2 ≤ sizeLine; decide, fun p hp => ?_⟩
    exact ⟨v, p, [.ty "list", .ty "tuple"], .type k.name, [.type "list", .type "tuple"], k.isSeq, rfl, upd_same, .cons (.ty _) (.cons (.ty _) .nil), knd_ty (hk.ext (Ext.upd hp)), knd_seq, q _ (Ext.upd hp)⟩
end
end K22

set_option Elab.async false
set_option maxRecDepth 100000
set_option maxHeartbeats 4000000
namespace K22
open PySem PySem.Spec PyProof.Rows L2
section
variable {P : Program} {w : World} {K : PySem.W.Frag} {mg : Str → Option Value} {base : Heap} {A : Ad}
def spListOf : Sp := fun vs H Q _ => ∃ v a b, vs = [v, .int a, .int b] ∧ ((∃ k, KndOf H v k ∧ k.isSeq = false ∧ ∀ H', Ext H H' → Q (.bl false) H') ∨
  ∃ p xs, v = .ref p ∧ Sq H p xs ∧ ∀ H', Ext H H' → Q (.bl (decide (a ≤ (xs.length : Int)) && decide ((xs.length : Int) ≤ b))) H')
theorem ok_listOf {f : Addr} {fd : FuncData} (F : Fun K "is_list_of" "is_list_of" s_is_list_of f fd) (T : Txt K mg A) (O_is_list : Own P w K mg base CX0 "is_list" 1 pm_is_list spIsList) : FnOk P w K mg base CX0 2 f fd pm_is_list_of spListOf := by
  refine F.ok sc_is_list_of (fun vs H Q E h => ?_) (fun cdv A' outer s H vs Q E hr h => ?_)
  · obtain ⟨v, a, b, rfl, _⟩ := h
    rfl
  · obtain ⟨v, a, b, rfl, h⟩ := h
    refine ⟨_, pss_one (ps_ret (pe_and (pe_own O_is_list (hr.mono (by decide)) pass0 (pa_cons (pv 0) pa_nil)) (pe_one (pe_chain op_le op_le (pv 1) (pe_callB call_len_seq (by rfl) T.n_len (by decide +kernel) (pa_cons (pv 0) pa_nil)) (pv 2))))), ?_⟩
    rcases h with ⟨k, hk, hs, q⟩ | ⟨p, xs, rfl, hx, q⟩
    · refine ⟨v, rfl, v, k, rfl, hk, fun H1 e1 => ⟨_, rfl, ?_⟩⟩
      rw [hs]
      exact iteF (q _ e1)
    · obtain ⟨k, hk, hs⟩ := hx.k
      refine ⟨_, rfl, _, k, rfl, hk, fun H1 e1 => ⟨_, rfl, ?_⟩⟩
      rw [hs]
      refine iteT ⟨_, rfl, _, rfl, p, xs, rfl, (hx.ext e1).l, _, _, rfl, rfl, _, rfl, ?_⟩
      have q1 := q H1 e1
      cases h2 : decide (a ≤ (xs.length : Int)) with
      | true =>
        rw [h2] at q1
        exact iteT ⟨_, rfl, _, _, rfl, rfl, q1⟩
      | false =>
        rw [h2] at q1
        exact iteF q1
/-! ### Turn -/
def tF (a b c d : V) : List (Str × V) := [("least", a), ("most", b), ("turn", c), ("numbers", d)]
theorem tF_new (a b c d : V) : putF "numbers" d (putF "turn" c (putF "most" b (putF "least" a []))) = tF a b c d := by
  rfl
def turnDue (a b c d : V) : Option Str :=
  if betw a 1 50 = false then some "least" else
  match a with
  | .int n => if betw b n 50 = false then some ("most" : Str) else if betw c 1 200 = false then some ("turn" : Str) else if betw d 2 8 = false then some ("numbers" : Str) else none
  | _ => none
def spTurnInit (A : Ad) : Sp := fun vs H Q E => ∃ (p dx : Addr) (a b c d : V), vs = [.ref p, a, b, c, d] ∧ H p = some (.ins A.Turn dx []) ∧ (∀ v ∈ [a, b, c, d], ∃ k, KndOf H v k) ∧
  (∀ s, turnDue a b c d = some s → ∀ e, H e = none → E (.ref A.BadPart) (some e) (upd H e (.xd [("part", .str s)]))) ∧
  (turnDue a b c d = none → ∀ H', H' p = some (.ins A.Turn dx (tF a b c d)) → (∀ x, x ≠ p → H' x = H x) → Q .non H')
theorem bt {v : V} {a b : Int} (h : betw v a b = true) : ∃ n, v = .int n ∧ a ≤ n ∧ n ≤ b := by
  cases v <;> first | (exact absurd h Bool.false_ne_true) | skip
  rename_i n
  have h' : (decide (a ≤ n) && decide (n ≤ b)) = true := h
  simp at h'
  exact ⟨n, rfl, h'.1, h'.2⟩
theorem ok_turnInit {f : Addr} {fd : FuncData} (F : Fun K "__init__" "Turn.__init__" s_Turn_init f fd) (T : Txt K mg A) (O_is_between : Own P w K mg base CX0 "is_between" 2 pm_is_between spBetween)
    (X_BadPart : XCls P w K mg base "BadPart" "part" A.BadPart) : FnOk P w K mg base (L2.CX P w) 4 f fd pm_Turn_init (spTurnInit A) := by
  refine F.okX sc_Turn_init (fun vs H Q E h => ?_) (fun cdv A' outer s H vs Q E hr h => ?_)
  · obtain ⟨_, _, _, _, _, _, rfl, _⟩ := h
    rfl
  · obtain ⟨p, dx, a, b, c, d, rfl, hp, hk, hE, hQ⟩ := h
    obtain ⟨ka, hka⟩ := hk a (by simp)
    obtain ⟨kb', hkb⟩ := hk b (by simp)
    obtain ⟨kc, hkc⟩ := hk c (by simp)
    obtain ⟨kd, hkd⟩ := hk d (by simp)
    refine ⟨_, pss_cons (ps_if (pt_not (pt_val (pe_own O_is_between (hr.mono (by decide)) pass0 (pa_cons (pv 1) (pa_cons (pe_int) (pa_cons (pe_gint T.g_MOST_DELAY) pa_nil)))))) (pss_one (ps_raise rfl (takes_of rfl rfl rfl rfl) (pmk_X X_BadPart (hr.mono (by decide)) (pe_str) rfl))) (pss_nil))
      (pss_cons (ps_if (pt_not (pt_val (pe_own O_is_between (hr.mono (by decide)) pass0 (pa_cons (pv 2) (pa_cons (pv 1) (pa_cons (pe_gint T.g_MOST_DELAY) pa_nil)))))) (pss_one (ps_raise rfl (takes_of rfl rfl rfl rfl) (pmk_X X_BadPart (hr.mono (by decide)) (pe_str) rfl))) (pss_nil))
      (pss_cons (ps_if (pt_not (pt_val (pe_own O_is_between (hr.mono (by decide)) pass0 (pa_cons (pv 3) (pa_cons (pe_int) (pa_cons (pe_gint T.g_MOST_TURN) pa_nil)))))) (pss_one (ps_raise rfl (takes_of rfl rfl rfl rfl) (pmk_X X_BadPart (hr.mono (by decide)) (pe_str) rfl))) (pss_nil))
      (pss_cons (ps_if (pt_not (pt_val (pe_own O_is_between (hr.mono (by decide)) pass0 (pa_cons (pv 4) (pa_cons (pe_int) (pa_cons (pe_gint T.g_MOST_NUMBERS) pa_nil)))))) (pss_one (ps_raise rfl (takes_of rfl rfl rfl rfl) (pmk_X X_BadPart (hr.mono (by decide)) (pe_str) rfl))) (pss_nil))
      (pss_cons (ps_fld (pv 0) (pv 1) rfl)
      (pss_cons (ps_fld (pv 0) (pv 2) rfl)
      (pss_cons (ps_fld (pv 0) (pv 3) rfl)
      (pss_one (ps_fld (pv 0) (pv 4) rfl)))))))), ?_⟩
    refine ⟨a, rfl, a, ka, 1, 50, rfl, hka, _, rfl, ?_⟩
    cases h1 : betw a 1 50 with
    | false =>
      refine iteT ?_
      exact mkX_fin fun e he => hE _ (by unfold turnDue; rw [if_pos h1]) e he
    | true =>
      refine iteF ?_
      obtain ⟨n, rfl, _, _⟩ := bt h1
      have e1 : turnDue (.int n) b c d = if betw b n 50 = false then some ("most" : Str) else if betw c 1 200 = false then some ("turn" : Str) else if betw d 2 8 = false then some ("numbers" : Str) else none := by
        unfold turnDue
        rw [if_neg (by rw [h1]; decide)]
      rw [e1] at hE hQ
      refine ⟨b, rfl, _, rfl, b, kb', n, 50, rfl, hkb, _, rfl, ?_⟩
      cases h2 : betw b n 50 with
      | false =>
        exact iteT (mkX_fin fun e he => hE _ (by rw [if_pos h2]) e he)
      | true =>
        refine iteF ?_
        rw [h2, if_neg (by decide)] at hE hQ
        refine ⟨c, rfl, c, kc, 1, 200, rfl, hkc, _, rfl, ?_⟩
        cases h3 : betw c 1 200 with
        | false =>
          exact iteT (mkX_fin fun e he => hE _ (by rw [if_pos h3]) e he)
        | true =>
          refine iteF ?_
          rw [h3, if_neg (by decide)] at hE hQ
          refine ⟨d, rfl, d, kd, 2, 8, rfl, hkd, _, rfl, ?_⟩
          cases h4 : betw d 2 8 with
          | false =>
            exact iteT (mkX_fin fun e he => hE _ (by rw [if_pos h4]) e he)
          | true =>
            refine iteF ?_
            rw [h4, if_neg (by decide)] at hQ
            refine ⟨_, rfl, _, rfl, p, A.Turn, dx, [], rfl, hp, T.Turn.cl, T.t_least, (by show 0 < 1000; decide), ?_⟩
            refine ⟨_, rfl, _, rfl, p, A.Turn, dx, _, rfl, upd_same, T.Turn.cl, T.t_most, (by show 1 < 1000; decide), ?_⟩
            refine ⟨_, rfl, _, rfl, p, A.Turn, dx, _, rfl, upd_same, T.Turn.cl, T.t_turn, (by show 2 < 1000; decide), ?_⟩
            refine ⟨_, rfl, _, rfl, p, A.Turn, dx, _, rfl, upd_same, T.Turn.cl, T.t_numbers, (by show 3 < 1000; decide), ?_⟩
            refine hQ rfl _ (upd_same.trans (by rw [tF_new])) fun x hx => ?_
            rw [upd_ne hx, upd_ne hx, upd_ne hx, upd_ne hx]
end
end K22

set_option Elab.async false
set_option maxRecDepth 100000
set_option maxHeartbeats 4000000
namespace K22
open PySem PySem.Spec PyProof.Rows L2
section
variable {P : Program} {w : World} {K : PySem.W.Frag} {mg : Str → Option Value} {base : Heap} {A : Ad}
def TurnAt (A : Ad) (H : Hp) (p : Addr) (a b c d : Int) : Prop := ∃ dx, H p = some (.ins A.Turn dx (tF (.int a) (.int b) (.int c) (.int d)))
theorem dvi {a b : Int} : decide (V.int a = V.int b) = decide (a = b) := by
  rw [Bool.eq_iff_iff]
  simp
def spTurnEq (A : Ad) : Sp := fun vs H Q _ => ∃ p a b c d v, vs = [.ref p, v] ∧ TurnAt A H p a b c d ∧
  ((∃ q a' b' c' d', v = .ref q ∧ TurnAt A H q a' b' c' d' ∧ Q (.bl (decide (a = a' ∧ b = b' ∧ c = c' ∧ d = d'))) H) ∨ ∃ k, KndOf H v k ∧ Q (.bl false) H)
theorem ok_turnEq {f : Addr} {fd : FuncData} (F : Fun K "__eq__" "Turn.__eq__" s_Turn_eq f fd) (T : Txt K mg A) : FnOk P w K mg base CX0 1 f fd pm_Turn_eq (spTurnEq A) := by
  refine F.ok sc_Turn_eq (fun vs H Q E h => ?_) (fun cdv A' outer s H vs Q E hr h => ?_)
  · obtain ⟨_, _, _, _, _, _, rfl, _⟩ := h
    rfl
  · obtain ⟨p, a, b, c, d, v, rfl, ⟨dx, hp⟩, h⟩ := h
    refine ⟨_, pss_cons (ps_if (PW.pt (pw_or (pt_not (pt_val (pe_callB call_isi (by rfl) T.n_isinstance (by decide +kernel) (pa_cons (pv 1) (pa_cons (pe_gcls T.Turn.gC) pa_nil))))) (pw_or (pt_cmpR op_ne (pe_fld (pv 0) rfl) (pe_fld (pv 1) rfl) (nomark _)) (pw_or1 (pt_cmpR op_ne (pe_fld (pv 0) rfl) (pe_fld (pv 1) rfl) (nomark _)))))) (pss_one (ps_ret (pe_bl))) (pss_nil))
      (pss_one (ps_ret (pe_and (pe_cmpR op_eq (pe_fld (pv 0) rfl) (pe_fld (pv 1) rfl) (nomark _)) (pe_one (pe_cmpR op_eq (pe_fld (pv 0) rfl) (pe_fld (pv 1) rfl) (nomark _)))))), ?_⟩
    rcases h with ⟨q, a', b', c', d', rfl, ⟨dy, hq⟩, k⟩ | ⟨k, hk, h⟩
    · refine ⟨_, rfl, _, .ref A.Turn, .ref A.Turn, .ref A.Turn, true, rfl, .own _, T.Turn.tyOf hq, T.Turn.me, _, rfl, ?_⟩
      refine iteF ?_
      refine ⟨_, rfl, p, A.Turn, dx, _, _, rfl, hp, T.Turn.cl, T.t_least, rfl, _, rfl, q, A.Turn, dy, _, _, rfl, hq, T.Turn.cl, T.t_least, rfl, rfl, _, rfl, ?_⟩
      rw [dvi]
      by_cases h1 : a = a'
      · rw [decide_eq_true h1]
        refine iteF ?_
        refine ⟨_, rfl, p, A.Turn, dx, _, _, rfl, hp, T.Turn.cl, T.t_most, rfl, _, rfl, q, A.Turn, dy, _, _, rfl, hq, T.Turn.cl, T.t_most, rfl, rfl, _, rfl, ?_⟩
        rw [dvi]
        by_cases h2 : b = b'
        · rw [decide_eq_true h2]
          refine iteF ?_
          refine ⟨_, rfl, p, A.Turn, dx, _, _, rfl, hp, T.Turn.cl, T.t_turn, rfl, _, rfl, q, A.Turn, dy, _, _, rfl, hq, T.Turn.cl, T.t_turn, rfl, rfl, _, rfl, ?_⟩
          rw [dvi]
          by_cases h3 : c = c'
          · rw [decide_eq_true h3]
            refine iteT ?_
            refine ⟨_, rfl, p, A.Turn, dx, _, _, rfl, hp, T.Turn.cl, T.t_numbers, rfl, _, rfl, q, A.Turn, dy, _, _, rfl, hq, T.Turn.cl, T.t_numbers, rfl, rfl, ?_⟩
            have e : decide (a = a' ∧ b = b' ∧ c = c' ∧ d = d') = decide (V.int d = V.int d') := by
              rw [dvi, Bool.eq_iff_iff]
              simp [h1, h2, h3]
            rw [e] at k
            exact k
          · rw [decide_eq_false h3]
            rw [decide_eq_false (by simp [h3])] at k
            exact iteF k
        · rw [decide_eq_false h2]
          rw [decide_eq_false (by simp [h2])] at k
          exact iteT k
      · rw [decide_eq_false h1]
        rw [decide_eq_false (by simp [h1])] at k
        exact iteT k
    · refine ⟨_, rfl, _, .ref A.Turn, .type k.name, .ref A.Turn, false, rfl, .own _, knd_ty hk, T.Turn.kitK k, _, rfl, ?_⟩
      exact iteT h
/-! ### Load -/
def lF (r z : V) : List (Str × V) := [("rows", r), ("quiet", z)]
/-- the word of the first wrong one of what a load is made from: rows no list (none) or its items -/
def loadDue (r : Option (List V)) (z : V) : Option Str := match r with
  | none => some ("rows" : Str)
  | some xs => if (decide (1 ≤ xs.length) && decide (xs.length ≤ 3)) = false then some ("rows" : Str) else if xs.all (fun x => betw x 1 600) = false then some ("rows" : Str) else if betw z 1 500 = false then some ("quiet" : Str) else none
/-- what is handed in as rows -/
def RowsAt (H : Hp) (v : V) : Option (List V) → Prop
  | none => ∃ k, KndOf H v k ∧ k.isSeq = false
  | some xs => ∃ p, v = .ref p ∧ Sq H p xs ∧ (∀ x ∈ xs, ∃ k, KndOf H x k) ∧ xs.length ≤ 1000
def LoadAt (A : Ad) (H : Hp) (p : Addr) (xs : List V) (z : V) : Prop := ∃ dx r, H p = some (.ins A.Load dx (lF (.ref r) z)) ∧ H r = some (.tup xs)
def spLoadInit (A : Ad) : Sp := fun vs H Q E => ∃ (p dx : Addr) (v z : V) (r : Option (List V)), vs = [.ref p, v, z] ∧ H p = some (.ins A.Load dx []) ∧ RowsAt H v r ∧ (∃ k, KndOf H z k) ∧
  (∀ s, loadDue r z = some s → ∀ H', Ext H H' → ∀ e, H' e = none → E (.ref A.BadPart) (some e) (upd H' e (.xd [("part", .str s)]))) ∧
  (loadDue r z = none → ∀ xs H', r = some xs → (∃ rr, H' p = some (.ins A.Load dx (lF (.ref rr) z)) ∧ H' rr = some (.tup xs)) → (∀ x o, x ≠ p → H x = some o → H' x = some o) → Q .non H')
end
end K22

set_option Elab.async false
set_option maxRecDepth 100000
set_option maxHeartbeats 4000000
namespace K22
open PySem PySem.Spec PyProof.Rows L2
section
variable {P : Program} {w : World} {K : PySem.W.Frag} {mg : Str → Option Value} {base : Heap} {A : Ad}
theorem all_map {xs : List V} {f : V → Bool} : xs.map (fun x => V.bl (f x)) = (xs.map f).map V.bl := by
  rw [List.map_map]
  rfl
theorem all_id {xs : List V} {f : V → Bool} : (xs.map f).all id = xs.all f := by
  rw [List.all_map]
  rfl
def rowsOk : Option (List V) → Bool
  | none => false
  | some xs => (decide (1 ≤ xs.length) && decide (xs.length ≤ 3)) && xs.all (fun x => betw x 1 600)
def spAreRows : Sp := fun vs H Q _ => ∃ v r, vs = [v] ∧ RowsAt H v r ∧ ∀ H', Ext H H' → Q (.bl (rowsOk r)) H'
theorem ok_areRows {f : Addr} {fd : FuncData} (F : Fun K "are_rows" "are_rows" s_are_rows f fd) (T : Txt K mg A) (O_is_between : Own P w K mg base CX0 "is_between" 2 pm_is_between spBetween)
    (O_is_list_of : Own P w K mg base CX0 "is_list_of" 2 pm_is_list_of spListOf) : FnOk P w K mg base CX0 3 f fd pm_are_rows spAreRows := by
  refine F.ok sc_are_rows (fun vs H Q E h => ?_) (fun cdv A' outer s H vs Q E hr h => ?_)
  · obtain ⟨_, _, rfl, _⟩ := h
    rfl
  · obtain ⟨v, r, rfl, hv, q⟩ := h
    refine ⟨_, pss_one (ps_ret (pe_and (pe_own O_is_list_of (hr.mono (by decide)) pass0 (pa_cons (pv 0) (pa_cons (pe_int) (pa_cons (pe_gint T.g_MOST_ROWS) pa_nil)))) (pe_one (pe_callB (cr_all rfl) (by rfl) T.n_all (by decide +kernel) (pa_cons (pe_lc (own := [("row", 1)]) (g := gName 1) (by rfl) sc_are_rows.nd (pi_sq (pv 0)) (blkOk_by (own := [("row", 1)]) (N := nm_are_rows) (sc := defScope s_are_rows) (by decide +kernel)) (fun _ _ _ _ _ => pg_name (i := 1) sc_are_rows.nd rfl (Or.inl rfl)) (fun _ _ _ _ _ => pts_nil) (fun _ _ _ _ _ => pe_own O_is_between (hr.mono (by decide)) pass0 (pa_cons (pv 1) (pa_cons (pe_int) (pa_cons (pe_gint T.g_MOST_PARCELS) pa_nil))))) pa_nil))))), ?_⟩
    cases r with
    | none =>
      obtain ⟨k, hk, hs⟩ := hv
      exact ⟨v, rfl, v, 1, 3, rfl, .inl ⟨k, hk, hs, fun H1 e1 => ⟨_, rfl, iteF (q H1 e1)⟩⟩⟩
    | some xs =>
      obtain ⟨p, rfl, hx, hkx, hlen⟩ := hv
      refine ⟨_, rfl, _, 1, 3, rfl, .inr ⟨p, xs, rfl, hx, fun H1 e1 => ⟨_, rfl, ?_⟩⟩⟩
      have ed : (decide ((1 : Int) ≤ (xs.length : Int)) && decide ((xs.length : Int) ≤ 3)) = (decide (1 ≤ xs.length) && decide (xs.length ≤ 3)) := by
        rw [Bool.eq_iff_iff]
        simp
        omega
      rw [ed]
      have ld : rowsOk (some xs) = ((decide (1 ≤ xs.length) && decide (xs.length ≤ 3)) && xs.all (fun x => betw x 1 600)) := rfl
      rw [ld] at q
      cases h1 : (decide (1 ≤ xs.length) && decide (xs.length ≤ 3)) with
      | false =>
        rw [h1] at q
        exact iteF (q H1 e1)
      | true =>
        rw [h1] at q
        refine iteT ?_
        refine ⟨_, rfl, p, rfl, lc_sqR (f := fun x => .bl (betw x 1 600)) (b := fun _ => true) (hx.ext e1) (small1000 hlen) (fun x => rfl) (fun x hm H' e' Q' q' => q' _ Ext.rfl') (fun x hm _ H' e' Q' q' => ?_) (fun D H2 hD e2 hl => ?_)⟩
        · obtain ⟨k, hk⟩ := hkx x hm
          exact ⟨x, rfl, x, k, 1, 600, rfl, hk.ext (e1.trans e'), q' _ Ext.rfl'⟩
        · rw [L2.filter_all, all_map] at hl
          refine ⟨D, xs.map (fun x => betw x 1 600), rfl, SqL.of hl, ?_⟩
          rw [all_id]
          exact q _ (e1.trans e2)
theorem RowsAt.ext {H H' : Hp} {v : V} {r : Option (List V)} (h : RowsAt H v r) (e : Ext H H') : RowsAt H' v r := by
  cases r with
  | none =>
    obtain ⟨k, hk, hs⟩ := h
    exact ⟨k, hk.ext e, hs⟩
  | some xs =>
    obtain ⟨p, rfl, hx, hkx, hl⟩ := h
    exact ⟨p, rfl, hx.ext e, fun x hm => by
      obtain ⟨k, hk⟩ := hkx x hm
      exact ⟨k, hk.ext e⟩, hl⟩
theorem ok_loadInit {f : Addr} {fd : FuncData} (F : Fun K "__init__" "Load.__init__" s_Load_init f fd) (T : Txt K mg A) (O_is_between : Own P w K mg base CX0 "is_between" 2 pm_is_between spBetween)
    (O_are_rows : Own P w K mg base CX0 "are_rows" 3 pm_are_rows spAreRows) (X_BadPart : XCls P w K mg base "BadPart" "part" A.BadPart) : FnOk P w K mg base (L2.CX P w) 4 f fd pm_Load_init (spLoadInit A) := by
  refine F.okX sc_Load_init (fun vs H Q E h => ?_) (fun cdv A' outer s H vs Q E hr h => ?_)
  · obtain ⟨_, _, _, _, _, rfl, _⟩ := h
    rfl
  · obtain ⟨p, dx, v, z, r, rfl, hp, hv, ⟨kz, hkz⟩, hE, hQ⟩ := h
    refine ⟨_, pss_cons (ps_if (pt_not (pt_val (pe_own O_are_rows (hr.mono (by decide)) pass0 (pa_cons (pv 1) pa_nil)))) (pss_one (ps_raise rfl (takes_of rfl rfl rfl rfl) (pmk_X X_BadPart (hr.mono (by decide)) (pe_str) rfl))) (pss_nil))
      (pss_cons (ps_if (pt_not (pt_val (pe_own O_is_between (hr.mono (by decide)) pass0 (pa_cons (pv 2) (pa_cons (pe_int) (pa_cons (pe_gint T.g_MOST_QUIET) pa_nil)))))) (pss_one (ps_raise rfl (takes_of rfl rfl rfl rfl) (pmk_X X_BadPart (hr.mono (by decide)) (pe_str) rfl))) (pss_nil))
      (pss_cons (ps_fld (pv 0) (pe_callTy call_tuple_of (by rfl) T.n_tuple (by decide +kernel) (pa_cons (pv 1) pa_nil)) rfl)
      (pss_one (ps_fld (pv 0) (pv 2) rfl)))), ?_⟩
    refine ⟨v, rfl, v, r, rfl, hv, fun H1 e1 => ⟨_, rfl, ?_⟩⟩
    have ld : loadDue r z = if rowsOk r = false then some ("rows" : Str) else if betw z 1 500 = false then some ("quiet" : Str) else none := by
      cases r with
      | none => rfl
      | some xs =>
        show (if (decide (1 ≤ xs.length) && decide (xs.length ≤ 3)) = false then some ("rows" : Str) else if xs.all (fun x => betw x 1 600) = false then some ("rows" : Str) else if betw z 1 500 = false then some ("quiet" : Str) else none) = if ((decide (1 ≤ xs.length) && decide (xs.length ≤ 3)) && xs.all (fun x => betw x 1 600)) = false then some ("rows" : Str) else if betw z 1 500 = false then some ("quiet" : Str) else none
        cases (decide (1 ≤ xs.length) && decide (xs.length ≤ 3)) <;> cases (xs.all fun x => betw x 1 600) <;> rfl
    rw [ld] at hE hQ
    cases h1 : rowsOk r with
    | false => exact iteT (mkX_fin fun e he => hE _ (by rw [if_pos h1]) _ e1 e he)
    | true =>
      refine iteF ?_
      rw [h1, if_neg (by decide)] at hE hQ
      refine ⟨z, rfl, z, kz, 1, 500, rfl, hkz.ext e1, _, rfl, ?_⟩
      cases h3 : betw z 1 500 with
      | false => exact iteT (mkX_fin fun e he => hE _ (by rw [if_pos h3]) _ e1 e he)
      | true =>
        refine iteF ?_
        rw [h3, if_neg (by decide)] at hQ
        have hp2 := e1 _ _ hp
        cases r with
        | none => cases h1
        | some xs =>
          obtain ⟨q, rfl, hx, hkx, hlen⟩ := hv
          rcases hx.ext e1 with hq | hq
          · refine ⟨_, rfl, q, xs, rfl, .inl ⟨SqL.of hq, fun l hl' => ?_⟩⟩
            have npl : p ≠ l := ne_of_none hp2 hl'
            refine ⟨_, rfl, p, A.Load, dx, [], rfl, (by rw [upd_ne npl]; exact hp2), T.Load.cl, T.l_rows, (by show 0 < 1000; decide), ?_⟩
            refine ⟨_, rfl, _, rfl, p, A.Load, dx, _, rfl, upd_same, T.Load.cl, T.l_quiet, (by show 1 < 1000; decide), ?_⟩
            refine hQ rfl xs _ rfl ⟨l, upd_same, by rw [upd_ne npl.symm, upd_ne npl.symm, upd_same]⟩ fun x o hxp ho => ?_
            rw [upd_ne hxp, upd_ne hxp, upd_ne (ne_of_none (e1 _ _ ho) hl')]
            exact e1 _ _ ho
          · refine ⟨_, rfl, q, xs, rfl, .inr ⟨SqT.of hq, ?_⟩⟩
            have npq : q ≠ p := ne_of hq hp2 (by intro z; cases z)
            refine ⟨_, rfl, p, A.Load, dx, [], rfl, hp2, T.Load.cl, T.l_rows, (by show 0 < 1000; decide), ?_⟩
            refine ⟨_, rfl, _, rfl, p, A.Load, dx, _, rfl, upd_same, T.Load.cl, T.l_quiet, (by show 1 < 1000; decide), ?_⟩
            refine hQ rfl xs _ rfl ⟨q, upd_same, by rw [upd_ne npq, upd_ne npq]; exact hq⟩ fun x o hxp ho => ?_
            rw [upd_ne hxp, upd_ne hxp]
            exact e1 _ _ ho
end
end K22

set_option Elab.async false
set_option maxRecDepth 100000
set_option maxHeartbeats 4000000
namespace K22
open PySem PySem.Spec PyProof.Rows L2
section
variable {P : Program} {w : World} {K : PySem.W.Frag} {mg : Str → Option Value} {base : Heap} {A : Ad}
def spLoadLen (A : Ad) : Sp := fun vs H Q _ => ∃ (p : Addr) (ns : List Int) (z : V), vs = [.ref p] ∧ LoadAt A H p (ns.map V.int) z ∧ 0 ≤ ns.sum ∧ ns.sum < 1000000 ∧ ∀ H', Ext H H' → Q (.int ns.sum) H'
theorem ok_loadLen {f : Addr} {fd : FuncData} (F : Fun K "__len__" "Load.__len__" s_Load_len f fd) (T : Txt K mg A) : FnOk P w K mg base CX0 1 f fd pm_Load_len (spLoadLen A) := by
  refine F.ok sc_Load_len (fun vs H Q E h => ?_) (fun cdv A' outer s H vs Q E hr h => ?_)
  · obtain ⟨_, _, _, rfl, _⟩ := h
    rfl
  · obtain ⟨p, ns, z, rfl, ⟨dx, r, hp, hr'⟩, h0, h1, q⟩ := h
    refine ⟨_, pss_one (ps_ret (pe_callB call_lenR (by rfl) T.n_len (by decide +kernel) (pa_cons (pe_callTy cr_range1 (by rfl) T.n_range (by decide +kernel) (pa_cons (pe_callB (cr_sumT rfl) (by rfl) T.n_sum (by decide +kernel) (pa_cons (pe_fld (pv 0) rfl) pa_nil)) pa_nil)) pa_nil))), ?_⟩
    refine ⟨_, rfl, p, A.Load, dx, _, _, rfl, hp, T.Load.cl, T.l_rows, rfl, r, ns, rfl, SqT.of hr', ns.sum, rfl, fun m hm => ?_⟩
    refine ⟨m, 0, ns.sum, rfl, upd_same, by omega, ?_⟩
    have e : (((ns.sum - 0).toNat : Nat) : Int) = ns.sum := by omega
    rw [e]
    exact q _ (Ext.upd hm)
def spLoadEq (A : Ad) : Sp := fun vs H Q _ => ∃ (p : Addr) (ns : List Int) (z : Int) (v : V), vs = [.ref p, v] ∧ LoadAt A H p (ns.map V.int) (.int z) ∧
  ((∃ (q : Addr) (ms : List Int) (z' : Int), v = .ref q ∧ LoadAt A H q (ms.map V.int) (.int z') ∧ Q (.bl (decide (ns = ms ∧ z = z'))) H) ∨ ∃ k, KndOf H v k ∧ Q (.bl false) H)
theorem ok_loadEq {f : Addr} {fd : FuncData} (F : Fun K "__eq__" "Load.__eq__" s_Load_eq f fd) (T : Txt K mg A) : FnOk P w K mg base CX0 1 f fd pm_Load_eq (spLoadEq A) := by
  refine F.ok sc_Load_eq (fun vs H Q E h => ?_) (fun cdv A' outer s H vs Q E hr h => ?_)
  · obtain ⟨_, _, _, _, rfl, _⟩ := h
    rfl
  · obtain ⟨p, ns, z, v, rfl, ⟨dx, r, hp, hr'⟩, h⟩ := h
    refine ⟨_, pss_one (ps_ret (pe_and (pe_callB call_isi (by rfl) T.n_isinstance (by decide +kernel) (pa_cons (pv 1) (pa_cons (pe_gcls T.Load.gC) pa_nil))) (pe_and (pe_cmpR (op_eqD hr.units) (pe_fld (pv 0) rfl) (pe_fld (pv 1) rfl) (nomark _)) (pe_one (pe_cmpR op_eq (pe_fld (pv 0) rfl) (pe_fld (pv 1) rfl) (nomark _)))))), ?_⟩
    rcases h with ⟨q, ms, z', rfl, ⟨dy, r', hq, hq'⟩, k⟩ | ⟨k, hk, h⟩
    · refine ⟨_, rfl, _, .ref A.Load, .ref A.Load, .ref A.Load, true, rfl, .own _, T.Load.tyOf hq, T.Load.me, _, rfl, ?_⟩
      refine iteT ?_
      refine ⟨_, rfl, p, A.Load, dx, _, _, rfl, hp, T.Load.cl, T.l_rows, rfl, _, rfl, q, A.Load, dy, _, _, rfl, hq, T.Load.cl, T.l_rows, rfl, ?_⟩
      refine ⟨_, _, .tup (SqT.of hr') (dp_all fl_ints), .tup (SqT.of hq') (dp_all fl_ints), shp_tup fl_ints, shp_tup fl_ints, _, rfl, ?_⟩
      show if PyData.eqvAll ((ns.map V.int).map pd) ((ms.map V.int).map pd) = true then _ else _
      rw [eqv_ints]
      by_cases h1 : ns = ms
      · rw [decide_eq_true h1]
        refine iteT ?_
        refine ⟨_, rfl, p, A.Load, dx, _, _, rfl, hp, T.Load.cl, T.l_quiet, rfl, _, rfl, q, A.Load, dy, _, _, rfl, hq, T.Load.cl, T.l_quiet, rfl, rfl, ?_⟩
        have e : decide (ns = ms ∧ z = z') = decide (V.int z = V.int z') := by
          rw [dvi, Bool.eq_iff_iff]
          simp [h1]
        rw [e] at k
        exact k
      · rw [decide_eq_false h1]
        rw [decide_eq_false (by simp [h1])] at k
        exact iteF k
    · refine ⟨_, rfl, _, .ref A.Load, .type k.name, .ref A.Load, false, rfl, .own _, knd_ty hk, T.Load.kitK k, _, rfl, ?_⟩
      exact iteF h
/-! ### the box of draws -/
def BoxAt (H : Hp) (b s : Addr) (N : Nat) : Prop := ∃ (ns : List Int) (i q r : Int), H b = some (.lst [.ref s, .int i, .int q, .int r]) ∧ H s = some (.lst (ns.map V.int)) ∧ 0 ≤ i ∧ i ≤ N ∧ 0 ≤ q ∧ 0 ≤ r ∧ r < 2147483647
def spBox (K : PySem.W.Frag) : Sp := fun vs H Q _ => ∃ (a : Addr) (ns : List Int), vs = [.ref a] ∧ SqL K H a (ns.map V.int) ∧ ns.length ≤ 63 ∧ ∀ b s H', H b = none → Ext H H' → BoxAt H' b s 0 → Q (.ref b) H'
theorem cut_ints (ns : List Int) (lo hi : Option Int) : ∃ ms : List Int, cutV (ns.map V.int) lo hi = ms.map V.int := by
  unfold cutV
  exact ⟨_, by rw [← List.map_drop, ← List.map_take]⟩
theorem ok_box {f : Addr} {fd : FuncData} (F : Fun K "_law_box" "_law_box" s__law_box f fd) (T : Txt K mg A) : FnOk P w K mg base CX0 1 f fd pm__law_box (spBox K) := by
  refine F.ok sc__law_box (fun vs H Q E h => ?_) (fun cdv A' outer s H vs Q E hr h => ?_)
  · obtain ⟨_, _, rfl, _⟩ := h
    rfl
  · obtain ⟨a, ns, rfl, ha, hl, q⟩ := h
    refine ⟨_, pss_one (ps_ret (pe_lst (pa_cons (pe_callTy call_list_of (by rfl) T.n_list (by decide +kernel) (pa_cons (pe_slice sl_list (pv 0) po_none (po_some (pe_int))) pa_nil)) (pa_cons (pe_int) (pa_cons (pe_int) (pa_cons (pe_int) pa_nil)))))), ?_⟩
    obtain ⟨ms, hms⟩ := cut_ints ns Option.none (some 63)
    refine ⟨_, rfl, 63, rfl, a, ns.map V.int, rfl, ha, fun p hp => ⟨p, _, rfl, .inl (SqL.of upd_same), fun l hl' => ⟨by show 4 ≤ sizeLine; decide, fun b hb => ?_⟩⟩⟩
    have e1 := Ext.upd (o := .lst (cutV (ns.map V.int) Option.none (some 63))) hp
    have e2 := e1.upd' (o := .lst (cutV (ns.map V.int) Option.none (some 63))) hl'
    have e3 := e2.upd' (o := .lst [.ref l, .int 0, .int 0, .int 7]) hb
    have nlb : l ≠ b := ne_of_none upd_same hb
    refine q b l _ (ext_none e2 hb) e3 ⟨ms, 0, 0, 7, upd_same, ?_, by omega, by omega, by omega, by omega, by omega⟩
    rw [upd_ne nlb, upd_same, hms]
/-- all but b stands -/
def But (b : Addr) (H H' : Hp) : Prop := ∀ x, x ≠ b → H' x = H x
def spDraw : Sp := fun vs H Q _ => ∃ (b s : Addr) (N : Nat) (L : Int), vs = [.ref b, .int L] ∧ BoxAt H b s N ∧ N ≤ 1000000 ∧ 1 ≤ L ∧ L ≤ 100000 ∧
  ∀ n H', 0 ≤ n → n < L → BoxAt H' b s (N + 1) → But b H H' → Q (.int n) H'
theorem ok_draw {f : Addr} {fd : FuncData} (F : Fun K "_law_draw" "_law_draw" s__law_draw f fd) (T : Txt K mg A) : FnOk P w K mg base CX0 1 f fd pm__law_draw spDraw := by
  refine F.ok sc__law_draw (fun vs H Q E h => ?_) (fun cdv A' outer s H vs Q E hr h => ?_)
  · obtain ⟨_, _, _, _, rfl, _⟩ := h
    rfl
  · obtain ⟨b, s', N, L, rfl, ⟨ns, i, q, r, hb, hs, i0, iN, q0, r0, r1⟩, hN, hL, hL2, k⟩ := h
    have nsb : s' ≠ b := ne_of hs hb (by intro z; injection z with z; cases ns <;> simp at z)
    refine ⟨_, Evl.pss_cut (ps_if (pt_cmpR op_eq (pe_ix ix_list (pv 0) (pe_int) (fun _ _ => rfl)) (pe_int) (nomark _)) (pss_cons (ps_set (i := 2) sc__law_draw.nd rfl (Or.inl rfl) (pe_int))
      (Evl.pss_cut (ps_if (pt_cmpR op_lt (pe_ix ix_list (pv 0) (pe_int) (fun _ _ => rfl)) (pe_callB call_len_seq (by rfl) T.n_len (by decide +kernel) (pa_cons (pe_ix ix_list (pv 0) (pe_int) (fun _ _ => rfl)) pa_nil)) (nomark _)) (pss_one (ps_set (i := 2) sc__law_draw.nd rfl (Or.inl rfl) (pe_callB call_abs (by rfl) T.n_abs (by decide +kernel) (pa_cons (pe_callTy call_int1 (by rfl) T.n_int (by decide +kernel) (pa_cons (pe_ix ix_list (pe_ix ix_list (pv 0) (pe_int) (fun _ _ => rfl)) (pe_ix ix_list (pv 0) (pe_int) (fun _ _ => rfl)) (fun _ _ => rfl)) pa_nil)) pa_nil)))) (pss_nil))
      (pss_cons (ps_asg (pe_op op_add (pe_ix ix_list (pv 0) (pe_int) (fun _ _ => rfl)) (pe_int)) (pg_sub (pv 0) (pe_int) set_list))
      (pss_cons (ps_if (pt_cmpR op_lt (pv 2) (pe_op op_pow (pe_int) (pe_int)) (nomark _)) (pss_cons (ps_asg (pe_op op_mod (pe_callTy call_int1 (by rfl) T.n_int (by decide +kernel) (pa_cons (pe_op op_add (pe_op op_add (pe_op op_mul (pe_callTy call_int1 (by rfl) T.n_int (by decide +kernel) (pa_cons (pe_ix ix_list (pv 0) (pe_int) (fun _ _ => rfl)) pa_nil)) (pe_int)) (pe_op op_mul (pe_op op_mod (pe_callTy call_int1 (by rfl) T.n_int (by decide +kernel) (pa_cons (pv 2) pa_nil)) (pe_int)) (pe_int))) (pe_op op_mul (pe_callTy call_int1 (by rfl) T.n_int (by decide +kernel) (pa_cons (pe_ix ix_list (pv 0) (pe_int) (fun _ _ => rfl)) pa_nil)) (pe_int))) pa_nil)) (pe_int)) (pg_sub (pv 0) (pe_int) set_list))
      (pss_one (ps_ret (pe_op op_modN (pe_callTy call_int1 (by rfl) T.n_int (by decide +kernel) (pa_cons (pe_op op_fdiv (pe_op op_add (pe_op op_mul (pe_callTy call_int1 (by rfl) T.n_int (by decide +kernel) (pa_cons (pe_ix ix_list (pv 0) (pe_int) (fun _ _ => rfl)) pa_nil)) (pe_int)) (pe_op op_mul (pe_callTy call_int1 (by rfl) T.n_int (by decide +kernel) (pa_cons (pe_ix ix_list (pv 0) (pe_int) (fun _ _ => rfl)) pa_nil)) (pe_callTy call_int1 (by rfl) T.n_int (by decide +kernel) (pa_cons (pe_ix ix_list (pv 0) (pe_int) (fun _ _ => rfl)) pa_nil)))) (pe_int)) pa_nil)) (pv 1))))) (pss_nil))
      (pss_one (ps_asg (pv 2) (pg_sub (pv 0) (pe_int) set_list))))))) (pss_nil))
      (pss_cons (ps_set (i := 3) sc__law_draw.nd rfl (Or.inl rfl) (pe_op op_modN (pe_callTy call_int1 (by rfl) T.n_int (by decide +kernel) (pa_cons (pe_ix ix_list (pv 0) (pe_int) (fun _ _ => rfl)) pa_nil)) (pv 1)))
      (pss_cons (ps_asg (pe_op op_fdivN (pe_ix ix_list (pv 0) (pe_int) (fun _ _ => rfl)) (pv 1)) (pg_sub (pv 0) (pe_int) set_list))
      (pss_one (ps_ret (pv 3))))), ?_⟩
    -- behind the first if: the box has a rest to draw from
    refine ⟨fun σ H' => ∃ (c : Option V) (i' q' r' : Int), σ = [some (.ref b), some (.int L), c, Option.none] ∧ H' b = some (.lst [.ref s', .int i', .int q', .int r']) ∧ But b H H' ∧ 0 ≤ i' ∧ i' ≤ N + 1 ∧ 0 ≤ q' ∧ 0 ≤ r' ∧ r' < 2147483647, ?_, ?_⟩
    · refine ⟨_, rfl, b, _, 2, .int q, rfl, rfl, SqL.of hb, rfl, rfl, _, rfl, ?_⟩
      rw [dvi]
      by_cases hq : q = 0
      · rw [decide_eq_true hq]
        refine iteT ?_
        -- the cell
        refine ⟨fun σ H' => H' = H ∧ ∃ c : Int, 0 ≤ c ∧ σ = [some (.ref b), some (.int L), some (.int c), Option.none], ?_, ?_⟩
        · refine ⟨_, rfl, b, _, 1, .int i, rfl, rfl, SqL.of hb, rfl, ?_⟩
          refine ⟨_, rfl, b, _, 0, .ref s', rfl, rfl, SqL.of hb, rfl, s', ns.map V.int, rfl, .inl (SqL.of hs), _, _, rfl, rfl, _, rfl, ?_⟩
          by_cases hi : i < ((ns.map V.int).length : Int)
          · rw [decide_eq_true hi]
            refine iteT ?_
            rw [List.length_map] at hi
            obtain ⟨j, rfl⟩ : ∃ j : Nat, i = (j : Int) := ⟨i.toNat, by omega⟩
            have hj : j < ns.length := by omega
            have hj' : (ns.map V.int)[j]? = some (.int ns[j]) := by rw [List.getElem?_map, List.getElem?_eq_getElem hj] <;> rfl
            refine ⟨_, rfl, b, _, 0, .ref s', rfl, rfl, SqL.of hb, rfl, _, rfl, b, _, 1, .int (j : Int), rfl, rfl, SqL.of hb, rfl, s', ns.map V.int, (j : Int), .int ns[j], rfl, rfl, SqL.of hs, atI_nat hj', .inl ⟨_, rfl, _, rfl, ?_⟩⟩
            exact ⟨rfl, _, by split <;> omega, rfl⟩
          · rw [decide_eq_false hi]
            exact iteF ⟨rfl, 0, by omega, rfl⟩
        · rintro σ H1 ⟨rfl, c, hc, rfl⟩
          refine ⟨_, rfl, b, _, 1, .int i, rfl, rfl, SqL.of hb, rfl, _, _, rfl, rfl, _, rfl, b, _, 1, 1, rfl, rfl, hb, rfl, ?_⟩
          refine ⟨_, rfl, _, _, rfl, rfl, ⟨by decide, by decide, by decide⟩, _, _, rfl, rfl, _, rfl, ?_⟩
          have hb1 : upd H1 b (.lst ([V.ref s', .int i, .int q, .int r].set 1 (.int (i + 1)))) b = some (.lst [.ref s', .int (i + 1), .int q, .int r]) := upd_same
          by_cases hc2 : c < 10 ^ (18 : Int).toNat
          · rw [decide_eq_true hc2]
            refine iteT ?_
            refine ⟨_, rfl, b, _, 3, .int r, rfl, rfl, SqL.of hb1, rfl, .inl ⟨_, rfl, _, _, rfl, rfl, .inr ⟨by decide, by decide⟩, ?_⟩⟩
            refine ⟨_, rfl, .inl ⟨_, rfl, _, _, rfl, rfl, (by show (0 : Int) < 2147483647; decide), _, _, rfl, rfl, .inr ⟨by decide, by decide⟩, _, _, rfl, rfl, ?_⟩⟩
            refine ⟨_, rfl, b, _, 1, .int (i + 1), rfl, rfl, SqL.of hb1, rfl, .inl ⟨_, rfl, _, _, rfl, rfl, .inr ⟨by decide, by decide⟩, _, _, rfl, rfl, .inl ⟨_, rfl, ?_⟩⟩⟩
            refine ⟨_, _, rfl, rfl, (by show (0 : Int) < 2147483647; decide), _, rfl, b, _, 3, 3, rfl, rfl, hb1, rfl, ?_⟩
            have r20 : 0 ≤ (r * 48271 + c % 2147483647 * 69621 + (i + 1) * 8191) % 2147483647 := Int.emod_nonneg _ (by decide)
            have r21 : (r * 48271 + c % 2147483647 * 69621 + (i + 1) * 8191) % 2147483647 < 2147483647 := Int.emod_lt_of_pos _ (by decide)
            have hb2 : upd (upd H1 b (.lst ([V.ref s', .int i, .int q, .int r].set 1 (.int (i + 1))))) b (.lst ([V.ref s', .int (i + 1), .int q, .int r].set 3 (.int ((r * 48271 + c % 2147483647 * 69621 + (i + 1) * 8191) % 2147483647)))) b =
              some (.lst [.ref s', .int (i + 1), .int q, .int ((r * 48271 + c % 2147483647 * 69621 + (i + 1) * 8191) % 2147483647)]) := upd_same
            refine ⟨_, rfl, b, _, 3, .int ((r * 48271 + c % 2147483647 * 69621 + (i + 1) * 8191) % 2147483647), rfl, rfl, SqL.of hb2, rfl, .inl ⟨_, rfl, _, _, rfl, rfl, .inr ⟨by decide, by decide⟩, ?_⟩⟩
            refine ⟨_, rfl, b, _, 1, .int (i + 1), rfl, rfl, SqL.of hb2, rfl, .inl ⟨_, rfl, _, rfl, b, _, 1, .int (i + 1), rfl, rfl, SqL.of hb2, rfl, .inl ⟨_, rfl, ?_⟩⟩⟩
            refine ⟨_, _, rfl, rfl, .inl ⟨by omega, by omega⟩, _, _, rfl, rfl, _, _, rfl, rfl, ⟨by decide, by decide⟩, .inl ⟨_, rfl, _, rfl, _, _, rfl, rfl, (by show L ≠ 0; omega), ?_⟩⟩
            refine k _ _ (Int.fmod_nonneg_of_pos _ (by omega)) (Int.fmod_lt_of_pos _ (by omega)) ⟨ns, i + 1, q, _, hb2, ?_, by omega, by omega, q0, r20, r21⟩ fun x hx => ?_
            · rw [upd_ne nsb, upd_ne nsb]
              exact hs
            · rw [upd_ne hx, upd_ne hx]
          · rw [decide_eq_false hc2]
            refine iteF ?_
            refine ⟨_, rfl, _, rfl, b, _, 2, 2, rfl, rfl, hb1, rfl, ?_⟩
            exact ⟨_, i + 1, c, r, rfl, upd_same, fun x hx => by rw [upd_ne hx, upd_ne hx], by omega, by omega, hc, r0, r1⟩
      · rw [decide_eq_false hq]
        exact iteF ⟨_, i, q, r, rfl, hb, fun x _ => rfl, i0, by omega, q0, r0, r1⟩
    · rintro σ H1 ⟨c, i', q', r', rfl, hb1, but, i0', iN', q0', r0', r1'⟩
      refine ⟨_, rfl, b, _, 2, .int q', rfl, rfl, SqL.of hb1, rfl, .inl ⟨_, rfl, _, rfl, _, _, rfl, rfl, (by show L ≠ 0; omega), ?_⟩⟩
      refine ⟨_, rfl, b, _, 2, .int q', rfl, rfl, SqL.of hb1, rfl, _, rfl, _, _, rfl, rfl, ⟨by omega, by omega⟩, _, rfl, b, _, 2, 2, rfl, rfl, hb1, rfl, ?_⟩
      refine ⟨_, rfl, ?_⟩
      refine k _ _ (Int.fmod_nonneg_of_pos _ (by omega)) (Int.fmod_lt_of_pos _ (by omega)) ⟨ns, i', q'.fdiv L, r', upd_same, ?_, i0', iN', Int.fdiv_nonneg q0' (by omega), r0', r1'⟩ fun x hx => ?_
      · rw [upd_ne nsb, but _ nsb]
        exact hs
      · rw [upd_ne hx, but _ hx]
end
end K22

set_option Elab.async false
set_option maxRecDepth 100000
set_option maxHeartbeats 4000000
namespace K22
open PySem PySem.Spec PyProof.Rows L2
section
variable {P : Program} {w : World} {K : PySem.W.Frag} {mg : Str → Option Value} {base : Heap} {A : Ad}
/-- what is drawn for a place: an int, or True, None, a text -/
def FlatV (v : V) : Prop := (∃ n, v = .int n) ∨ v = .bl true ∨ v = .non ∨ v = .str "2"
theorem FlatV.k {v : V} (h : FlatV v) (H : Hp) : ∃ k, KndOf H v k ∧ k.isSeq = false := by
  rcases h with ⟨n, rfl⟩ | rfl | rfl | rfl
  · exact ⟨.int, ⟨n, rfl⟩, rfl⟩
  · exact ⟨.bool, ⟨true, rfl⟩, rfl⟩
  · exact ⟨.none, rfl, rfl⟩
  · exact ⟨.str, ⟨_, rfl⟩, rfl⟩
theorem FlatV.fl {v : V} (h : FlatV v) : Fl v := by
  rcases h with ⟨n, rfl⟩ | rfl | rfl | rfl
  · exact trivial
  · exact trivial
  · exact trivial
  · show PySem.PyData.canLay0 (.str "2") = true
    decide +kernel
/-- what stood stands, but for b -/
def ExtB (b : Addr) (H H' : Hp) : Prop := ∀ x o, x ≠ b → H x = some o → H' x = some o
theorem ExtB.refl {b : Addr} {H : Hp} : ExtB b H H := fun _ _ _ h => h
theorem ExtB.trans {b : Addr} {H H1 H2 : Hp} (a : ExtB b H H1) (c : ExtB b H1 H2) : ExtB b H H2 := fun x o h e => c x o h (a x o h e)
theorem But.ext {b : Addr} {H H' : Hp} (h : But b H H') : ExtB b H H' := fun x o hx e => (h x hx).trans e
theorem Ext.b {b : Addr} {H H' : Hp} (h : Ext H H') : ExtB b H H' := fun x o _ e => h x o e
theorem BoxAt.ext {b s : Addr} {H H' : Hp} {N : Nat} (h : BoxAt H b s N) (e : Ext H H') : BoxAt H' b s N := by
  obtain ⟨ns, i, q, r, hb, hs, h⟩ := h
  exact ⟨ns, i, q, r, e _ _ hb, e _ _ hs, h⟩
theorem BoxAt.le {b s : Addr} {H : Hp} {N M : Nat} (h : BoxAt H b s N) (e : N ≤ M) : BoxAt H b s M := by
  obtain ⟨ns, i, q, r, hb, hs, h0, h1, h⟩ := h
  exact ⟨ns, i, q, r, hb, hs, h0, by omega, h⟩
theorem BoxAt.ref {b s : Addr} {H : Hp} {N : Nat} (h : BoxAt H b s N) : H b ≠ none := by
  obtain ⟨ns, i, q, r, hb, _⟩ := h
  rw [hb]
  exact fun z => nomatch z
/-- a new place is none of the box's -/
theorem BoxAt.new {b s l : Addr} {H : Hp} {N : Nat} (h : BoxAt H b s N) (hl : H l = none) : l ≠ b ∧ l ≠ s := by
  obtain ⟨ns, i, q, r, hb, hs, _⟩ := h
  exact ⟨(ne_of_none hb hl).symm, (ne_of_none hs hl).symm⟩
theorem BoxAt.upd {b s l : Addr} {H : Hp} {N : Nat} {o : HO} (h : BoxAt H b s N) (hb : l ≠ b) (hs : l ≠ s) : BoxAt (L2.upd H l o) b s N := by
  obtain ⟨ns, i, q, r, h1, h2, h⟩ := h
  exact ⟨ns, i, q, r, by rw [upd_ne hb.symm]; exact h1, by rw [upd_ne hs.symm]; exact h2, h⟩
theorem ExtB.mut {b l : Addr} {H H' : Hp} {o : HO} (e : ExtB b H H') (hl : H l = none) : ExtB b H (L2.upd H' l o) := fun x u hx h => by
  rw [upd_ne (ne_of_none h hl)]
  exact e x u hx h
def spValue : Sp := fun vs H Q _ => ∃ (b s : Addr) (N : Nat) (lo hi : Int), vs = [.ref b, .int lo, .int hi] ∧ BoxAt H b s N ∧ N ≤ 999000 ∧ lo ≤ hi ∧ hi ≤ lo + 10000 ∧
  ∀ v H', FlatV v → BoxAt H' b s (N + 2) → ExtB b H H' → Q v H'
theorem ok_value {f : Addr} {fd : FuncData} (F : Fun K "_law_value" "_law_value" s__law_value f fd) (O__law_draw : Own P w K mg base CX0 "_law_draw" 1 pm__law_draw spDraw) : FnOk P w K mg base CX0 2 f fd pm__law_value spValue := by
  refine F.ok sc__law_value (fun vs H Q E h => ?_) (fun cdv A' outer s H vs Q E hr h => ?_)
  · obtain ⟨_, _, _, _, _, rfl, _⟩ := h
    rfl
  · obtain ⟨b, sb, N, lo, hi, rfl, hb, hN, hlh, hh, k⟩ := h
    refine ⟨_, pss_cons (ps_set (i := 3) sc__law_value.nd rfl (Or.inl rfl) (pe_own O__law_draw (hr.mono (by decide)) pass0 (pa_cons (pv 0) (pa_cons (pe_int) pa_nil))))
      (pss_cons (ps_if (pt_cmpR op_eq (pv 3) (pe_int) (nomark _)) (pss_one (ps_ret (pe_ix ix_list (pe_lst (pa_cons (pe_op op_sub (pv 1) (pe_int)) (pa_cons (pe_op op_add (pv 2) (pe_int)) (pa_cons (pe_bl) (pa_cons (pe_non) (pa_cons (pe_str) (pa_cons (pe_op op_pow (pe_int) (pe_int)) pa_nil))))))) (pe_own O__law_draw (hr.mono (by decide)) pass0 (pa_cons (pv 0) (pa_cons (pe_int) pa_nil))) (fun _ _ => rfl)))) (pss_nil))
      (pss_cons (ps_if (pt_cmpR op_lt (pv 3) (pe_int) (nomark _)) (pss_one (ps_ret (pe_ix ix_list (pe_lst (pa_cons (pv 1) (pa_cons (pv 2) pa_nil))) (pe_op op_sub (pv 3) (pe_int)) (fun _ _ => rfl)))) (pss_nil))
      (pss_one (ps_ret (pe_op op_add (pv 1) (pe_own O__law_draw (hr.mono (by decide)) pass0 (pa_cons (pv 0) (pa_cons (pe_op op_add (pe_op op_sub (pv 2) (pv 1)) (pe_int)) pa_nil)))))))), ?_⟩
    refine ⟨_, rfl, b, sb, N, 12, rfl, hb, by omega, by omega, by omega, fun kd H1 k0 k1 hb1 but1 => ?_⟩
    refine ⟨_, rfl, rfl, _, rfl, ?_⟩
    rw [dvi]
    by_cases h0 : kd = 0
    · rw [decide_eq_true h0]
      refine iteT ?_
      refine ⟨_, rfl, _, _, rfl, rfl, _, rfl, _, _, rfl, rfl, _, _, rfl, rfl, ⟨by decide, by decide, by decide⟩, by show 6 ≤ sizeLine; decide, fun l hl => ?_⟩
      have nbl : b ≠ l := fun z => hb1.ref (by rw [z]; exact hl)
      have eu := Ext.upd (o := .lst [.int (lo - 1), .int (hi + 1), .bl true, .non, .str "2", .int (10 ^ (18 : Int).toNat)]) hl
      refine ⟨_, rfl, b, sb, N + 1, 6, rfl, hb1.ext eu, by omega, by omega, by omega, fun j H2 j0 j1 hb2 but2 => ?_⟩
      have hl2 : H2 l = some (.lst [.int (lo - 1), .int (hi + 1), .bl true, .non, .str "2", .int (10 ^ (18 : Int).toNat)]) := by
        rw [but2 l (Ne.symm nbl)]
        exact upd_same
      have fin : ∀ v, FlatV v → Q v H2 := fun v hv => k v H2 hv hb2 ((but1.ext.trans (Ext.b eu)).trans but2.ext)
      have hj : j = 0 ∨ j = 1 ∨ j = 2 ∨ j = 3 ∨ j = 4 ∨ j = 5 := by omega
      rcases hj with rfl | rfl | rfl | rfl | rfl | rfl
      · exact ⟨l, _, 0, _, rfl, rfl, SqL.of hl2, rfl, fin _ (.inl ⟨_, rfl⟩)⟩
      · exact ⟨l, _, 1, _, rfl, rfl, SqL.of hl2, rfl, fin _ (.inl ⟨_, rfl⟩)⟩
      · exact ⟨l, _, 2, _, rfl, rfl, SqL.of hl2, rfl, fin _ (.inr (.inl rfl))⟩
      · exact ⟨l, _, 3, _, rfl, rfl, SqL.of hl2, rfl, fin _ (.inr (.inr (.inl rfl)))⟩
      · exact ⟨l, _, 4, _, rfl, rfl, SqL.of hl2, rfl, fin _ (.inr (.inr (.inr rfl)))⟩
      · exact ⟨l, _, 5, _, rfl, rfl, SqL.of hl2, rfl, fin _ (.inl ⟨_, rfl⟩)⟩
    · rw [decide_eq_false h0]
      refine iteF ?_
      refine ⟨_, rfl, _, _, rfl, rfl, _, rfl, ?_⟩
      by_cases h3 : kd < 3
      · rw [decide_eq_true h3]
        refine iteT ?_
        refine ⟨_, rfl, _, rfl, by show 2 ≤ sizeLine; decide, fun l hl => ?_⟩
        have eu := Ext.upd (o := .lst [.int lo, .int hi]) hl
        have fin : ∀ n, Q (.int n) (upd H1 l (.lst [.int lo, .int hi])) := fun n => k _ _ (.inl ⟨_, rfl⟩) ((hb1.ext eu).le (by omega)) (but1.ext.trans (Ext.b eu))
        refine ⟨_, rfl, _, _, rfl, rfl, ?_⟩
        have hk : kd = 1 ∨ kd = 2 := by omega
        rcases hk with rfl | rfl
        · exact ⟨l, _, 0, _, rfl, rfl, SqL.of upd_same, rfl, fin _⟩
        · exact ⟨l, _, 1, _, rfl, rfl, SqL.of upd_same, rfl, fin _⟩
      · rw [decide_eq_false h3]
        refine iteF ?_
        refine ⟨_, rfl, _, rfl, _, rfl, _, rfl, _, _, rfl, rfl, _, _, rfl, rfl, b, sb, N + 1, hi - lo + 1, rfl, hb1, by omega, by omega, by omega, fun j H2 j0 j1 hb2 but2 => ?_⟩
        exact ⟨_, _, rfl, rfl, k _ _ (.inl ⟨_, rfl⟩) hb2 (but1.ext.trans but2.ext)⟩
def spFits : Sp := fun vs H Q _ => ∃ v k a b, vs = [v, .int a, .int b] ∧ KndOf H v k ∧ Q (.bl (betw v a b)) H
theorem ok_fits {f : Addr} {fd : FuncData} (F : Fun K "_law_fits" "_law_fits" s__law_fits f fd) (T : Txt K mg A) : FnOk P w K mg base CX0 1 f fd pm__law_fits spFits := by
  refine F.ok sc__law_fits (fun vs H Q E h => ?_) (fun cdv A' outer s H vs Q E hr h => ?_)
  · obtain ⟨v, k, a, b, rfl, _⟩ := h
    rfl
  · obtain ⟨v, k, a, b, rfl, hk, q⟩ := h
    refine ⟨_, pss_one (ps_ret (pe_and (pe_callB call_isi (by rfl) T.n_isinstance (by decide +kernel) (pa_cons (pv 0) (pa_cons (pe_bltn (v := .ty "int") (by rfl) T.n_int (by decide +kernel) rfl) pa_nil))) (pe_and (pe_not (pe_callB call_isi (by rfl) T.n_isinstance (by decide +kernel) (pa_cons (pv 0) (pa_cons (pe_bltn (v := .ty "bool") (by rfl) T.n_bool (by decide +kernel) rfl) pa_nil)))) (pe_one (pe_chain op_le op_le (pv 1) (pv 0) (pv 2)))))), ?_⟩
    refine ⟨v, rfl, v, .ty "int", .type k.name, .type "int", k.isInt, rfl, .ty _, knd_ty hk, knd_int, _, rfl, ?_⟩
    cases h1 : k.isInt with
    | false =>
      rw [betw_not hk (by rw [h1]; rfl)] at q
      exact iteF q
    | true =>
      refine iteT ⟨v, rfl, v, .ty "bool", .type k.name, .type "bool", k.isBool, rfl, .ty _, knd_ty hk, knd_bool, _, rfl, _, rfl, ?_⟩
      cases h2 : k.isBool with
      | true =>
        rw [betw_not hk (by rw [h1, h2]; rfl)] at q
        exact iteF q
      | false =>
        have e : k = .int := knd_yes (by rw [h1, h2]; rfl)
        subst e
        obtain ⟨n, rfl⟩ := hk
        refine iteT ⟨_, rfl, _, rfl, _, _, rfl, rfl, _, rfl, ?_⟩
        rw [betw_int] at q
        cases h3 : decide (a ≤ n) with
        | true =>
          rw [h3] at q
          exact iteT ⟨_, rfl, _, _, rfl, rfl, q⟩
        | false =>
          rw [h3] at q
          exact iteF q
def opt : Option Str → V
  | some s => .str s
  | none => .non
def spTurnDue (K : PySem.W.Frag) : Sp := fun vs H Q _ => ∃ (l : Addr) (a b c d : V), vs = [.ref l] ∧ H l = some (.lst [a, b, c, d]) ∧ (∀ v ∈ [a, b, c, d], ∃ k, KndOf H v k) ∧ Q (opt (turnDue a b c d)) H
theorem ok_turnDue {f : Addr} {fd : FuncData} (F : Fun K "_law_turn_due" "_law_turn_due" s__law_turn_due f fd) (O__law_fits : Own P w K mg base CX0 "_law_fits" 1 pm__law_fits spFits) : FnOk P w K mg base CX0 2 f fd pm__law_turn_due (spTurnDue K) := by
  refine F.ok sc__law_turn_due (fun vs H Q E h => ?_) (fun cdv A' outer s H vs Q E hr h => ?_)
  · obtain ⟨l, _, _, _, _, rfl, _⟩ := h
    rfl
  · obtain ⟨l, a, b, c, d, rfl, hl, hk, q⟩ := h
    obtain ⟨ka, hka⟩ := hk a (by simp)
    obtain ⟨kb', hkb⟩ := hk b (by simp)
    obtain ⟨kc, hkc⟩ := hk c (by simp)
    obtain ⟨kd, hkd⟩ := hk d (by simp)
    refine ⟨_, pss_cons (ps_if (pt_not (pt_val (pe_own O__law_fits (hr.mono (by decide)) pass0 (pa_cons (pe_ix ix_list (pv 0) (pe_int) (fun _ _ => rfl)) (pa_cons (pe_int) (pa_cons (pe_int) pa_nil)))))) (pss_one (ps_ret (pe_str))) (pss_nil))
      (pss_cons (ps_if (pt_not (pt_val (pe_own O__law_fits (hr.mono (by decide)) pass0 (pa_cons (pe_ix ix_list (pv 0) (pe_int) (fun _ _ => rfl)) (pa_cons (pe_ix ix_list (pv 0) (pe_int) (fun _ _ => rfl)) (pa_cons (pe_int) pa_nil)))))) (pss_one (ps_ret (pe_str))) (pss_nil))
      (pss_cons (ps_if (pt_not (pt_val (pe_own O__law_fits (hr.mono (by decide)) pass0 (pa_cons (pe_ix ix_list (pv 0) (pe_int) (fun _ _ => rfl)) (pa_cons (pe_int) (pa_cons (pe_int) pa_nil)))))) (pss_one (ps_ret (pe_str))) (pss_nil))
      (pss_one (ps_ret (pe_ifExp (pt_val (pe_own O__law_fits (hr.mono (by decide)) pass0 (pa_cons (pe_ix ix_list (pv 0) (pe_int) (fun _ _ => rfl)) (pa_cons (pe_int) (pa_cons (pe_int) pa_nil))))) (pe_non) (pe_str)))))), ?_⟩
    refine ⟨_, rfl, l, _, 0, a, rfl, rfl, SqL.of hl, rfl, a, ka, 1, 50, rfl, hka, _, rfl, ?_⟩
    cases h1 : betw a 1 50 with
    | false =>
      refine iteT ?_
      have e : turnDue a b c d = some ("least" : Str) := by unfold turnDue; rw [if_pos h1]
      rw [e] at q
      exact q
    | true =>
      refine iteF ?_
      obtain ⟨n, rfl, _, _⟩ := bt h1
      have e1 : turnDue (.int n) b c d = if betw b n 50 = false then some ("most" : Str) else if betw c 1 200 = false then some ("turn" : Str) else if betw d 2 8 = false then some ("numbers" : Str) else none := by
        unfold turnDue
        rw [if_neg (by rw [h1]; decide)]
      rw [e1] at q
      refine ⟨_, rfl, l, _, 1, b, rfl, rfl, SqL.of hl, rfl, _, rfl, l, _, 0, .int n, rfl, rfl, SqL.of hl, rfl, b, kb', n, 50, rfl, hkb, _, rfl, ?_⟩
      cases h2 : betw b n 50 with
      | false =>
        rw [h2, if_pos rfl] at q
        exact iteT q
      | true =>
        refine iteF ?_
        rw [h2, if_neg (by decide)] at q
        refine ⟨_, rfl, l, _, 2, c, rfl, rfl, SqL.of hl, rfl, c, kc, 1, 200, rfl, hkc, _, rfl, ?_⟩
        cases h3 : betw c 1 200 with
        | false =>
          rw [h3, if_pos rfl] at q
          exact iteT q
        | true =>
          refine iteF ?_
          rw [h3, if_neg (by decide)] at q
          refine ⟨_, rfl, l, _, 3, d, rfl, rfl, SqL.of hl, rfl, d, kd, 2, 8, rfl, hkd, _, rfl, ?_⟩
          cases h4 : betw d 2 8 with
          | false =>
            rw [h4, if_pos rfl] at q
            exact iteF q
          | true =>
            rw [h4, if_neg (by decide)] at q
            exact iteT q
end
end K22

set_option Elab.async false
set_option maxRecDepth 100000
set_option maxHeartbeats 4000000
namespace K22
open PySem PySem.Spec PyProof.Rows L2
section
variable {P : Program} {w : World} {K : PySem.W.Frag} {mg : Str → Option Value} {base : Heap} {A : Ad}
theorem eqv_nil {l : List V} : PyData.eqvAll (l.map pd) (([] : List V).map pd) = l.isEmpty := by
  cases l <;> rfl
theorem flt_all (xs : List V) (b : V → Bool) : (xs.filter fun x => !b x).isEmpty = xs.all b := by
  induction xs with
  | nil => rfl
  | cons x xs ih =>
    rw [List.filter_cons, List.all_cons]
    cases hb : b x
    · simp
    · simpa using ih
def spLoadDue : Sp := fun vs H Q _ => ∃ (v z : V) (r : Option (List V)), vs = [v, z] ∧ RowsAt H v r ∧ (∀ xs, r = some xs → ∀ x ∈ xs, FlatV x) ∧ FlatV z ∧ ∀ H', Ext H H' → Q (opt (loadDue r z)) H'
theorem ok_loadDue {f : Addr} {fd : FuncData} (F : Fun K "_law_load_due" "_law_load_due" s__law_load_due f fd) (T : Txt K mg A) (O__law_fits : Own P w K mg base CX0 "_law_fits" 1 pm__law_fits spFits) :
    FnOk P w K mg base CX0 2 f fd pm__law_load_due spLoadDue := by
  refine F.ok sc__law_load_due (fun vs H Q E h => ?_) (fun cdv A' outer s H vs Q E hr h => ?_)
  · obtain ⟨_, _, _, rfl, _⟩ := h
    rfl
  · obtain ⟨v, z, r, rfl, hv, hfl, hz, q⟩ := h
    refine ⟨_, pss_cons (ps_if (PW.pt (pw_or (pt_not (pt_val (pe_callB call_isiT (by rfl) T.n_isinstance (by decide +kernel) (pa_cons (pv 0) (pa_cons (pe_tup (pa_cons (pe_bltn (v := .ty "list") (by rfl) T.n_list (by decide +kernel) rfl) (pa_cons (pe_bltn (v := .ty "tuple") (by rfl) T.n_tuple (by decide +kernel) rfl) pa_nil))) pa_nil))))) (pw_or1 (pt_not (pt_chain op_le op_le (pe_int) (pe_callB call_len_seq (by rfl) T.n_len (by decide +kernel) (pa_cons (pv 0) pa_nil)) (pe_int)))))) (pss_one (ps_ret (pe_str))) (pss_nil))
      (pss_cons (ps_if (pt_cmpR (op_neD hr.units) (pe_lc (own := [("_law_count", 2)]) (g := gName 2) (by rfl) sc__law_load_due.nd (pi_sq (pv 0)) (blkOk_by (own := [("_law_count", 2)]) (N := nm__law_load_due) (sc := defScope s__law_load_due) (by decide +kernel)) (fun _ _ _ _ _ => pg_name (i := 2) sc__law_load_due.nd rfl (Or.inl rfl)) (fun _ _ _ _ _ => pts_one (pt_not (pt_val (pe_own O__law_fits (hr.mono (by decide)) pass0 (pa_cons (pv 2) (pa_cons (pe_int) (pa_cons (pe_int) pa_nil))))))) (fun _ _ _ _ _ => pv 2)) (pe_lst (pa_nil)) (nomark _)) (pss_one (ps_ret (pe_str))) (pss_nil))
      (pss_one (ps_ret (pe_ifExp (pt_val (pe_own O__law_fits (hr.mono (by decide)) pass0 (pa_cons (pv 1) (pa_cons (pe_int) (pa_cons (pe_int) pa_nil))))) (pe_non) (pe_str))))), ?_⟩
    cases r with
    | none =>
      obtain ⟨k, hk, hs⟩ := hv
      refine ⟨v, rfl, by show 2 ≤ sizeLine; decide, fun p hp => ⟨v, p, [.ty "list", .ty "tuple"], .type k.name, [.type "list", .type "tuple"], k.isSeq, rfl, upd_same, .cons (.ty _) (.cons (.ty _) .nil), knd_ty (hk.ext (Ext.upd hp)), knd_seq, _, rfl, ?_⟩⟩
      rw [hs]
      exact iteT (q _ (Ext.upd hp))
    | some xs =>
      obtain ⟨p', rfl, hx, hkx, hlen⟩ := hv
      obtain ⟨k, hk, hs⟩ := hx.k
      refine ⟨_, rfl, by show 2 ≤ sizeLine; decide, fun p hp => ⟨_, p, [.ty "list", .ty "tuple"], .type k.name, [.type "list", .type "tuple"], k.isSeq, rfl, upd_same, .cons (.ty _) (.cons (.ty _) .nil), knd_ty (hk.ext (Ext.upd hp)), knd_seq, _, rfl, ?_⟩⟩
      rw [hs]
      refine iteF ?_
      have e1 := Ext.upd (o := .tup [.ty "list", .ty "tuple"]) hp
      have ld : loadDue (some xs) z = if (decide (1 ≤ xs.length) && decide (xs.length ≤ 3)) = false then some ("rows" : Str) else if xs.all (fun x => betw x 1 600) = false then some ("rows" : Str) else if betw z 1 500 = false then some ("quiet" : Str) else none := rfl
      rw [ld] at q
      refine ⟨_, rfl, p', xs, rfl, (hx.ext e1).l, _, _, rfl, rfl, _, rfl, ?_⟩
      by_cases h1 : (1 : Int) ≤ (xs.length : Int)
      · rw [decide_eq_true h1]
        refine iteT ⟨_, _, rfl, rfl, _, rfl, ?_⟩
        by_cases h2 : (xs.length : Int) ≤ 3
        · rw [decide_eq_true h2]
          refine iteF ?_
          have h12 : (decide (1 ≤ xs.length) && decide (xs.length ≤ 3)) = true := by simp; omega
          rw [h12, if_neg (by decide)] at q
          refine ⟨_, rfl, p', rfl, lc_sqR (f := fun x => x) (b := fun x => !betw x 1 600) (hx.ext e1) (small1000 hlen) (fun x => rfl) (fun x hm H' e' Q' q' => ?_) (fun x hm _ H' e' Q' q' => ⟨x, rfl, q' _ Ext.rfl'⟩) (fun D H2 hD e2 hl => ?_)⟩
          · obtain ⟨k', hk'⟩ := hkx x hm
            exact ⟨x, rfl, x, k', 1, 600, rfl, (hk'.ext e1).ext e', _, rfl, q' _ Ext.rfl'⟩
          · rw [List.map_id'] at hl
            refine ⟨Nat.zero_le _, fun l hl' => ?_⟩
            have e3 := (e1.trans e2).upd' (o := .lst []) hl'
            have hDl : upd H2 l (.lst []) D = some (.lst (xs.filter fun x => !betw x 1 600)) := by
              rw [upd_ne (ne_of_none hl hl')]
              exact hl
            have ff : ∀ x ∈ xs.filter (fun x => !betw x 1 600), Fl x := fun x hx => (hfl xs rfl x (List.mem_filter.mp hx).1).fl
            refine ⟨_, _, .lst (SqL.of hDl) (dp_all ff), .lst (SqL.of upd_same) (dp_all (vs := []) fun _ h => nomatch h), shp_lst ff, rfl, _, rfl, ?_⟩
            show if (!PyData.eqvAll ((xs.filter fun x => !betw x 1 600).map pd) (([] : List V).map pd)) = true then _ else _
            rw [eqv_nil, flt_all]
            cases h3 : xs.all (fun x => betw x 1 600) with
            | false =>
              rw [h3, if_pos rfl] at q
              exact iteT (q _ e3)
            | true =>
              rw [h3, if_neg (by decide)] at q
              refine iteF ?_
              obtain ⟨kz, hkz, _⟩ := hz.k (upd H2 l (.lst []))
              refine ⟨z, rfl, z, kz, 1, 500, rfl, hkz, _, rfl, ?_⟩
              cases h4 : betw z 1 500 with
              | false =>
                rw [h4, if_pos rfl] at q
                exact iteF (q _ e3)
              | true =>
                rw [h4, if_neg (by decide)] at q
                exact iteT (q _ e3)
        · rw [decide_eq_false h2]
          refine iteT ?_
          rw [if_pos (by simp; omega)] at q
          exact q _ e1
      · rw [decide_eq_false h1]
        refine iteF ⟨_, rfl, iteT ?_⟩
        rw [if_pos (by simp; omega)] at q
        exact q _ e1
end
end K22

set_option Elab.async false
set_option maxRecDepth 100000
set_option maxHeartbeats 4000000
namespace K22
open PySem PySem.Spec PyProof.Rows L2
section
variable {P : Program} {w : World} {K : PySem.W.Frag} {mg : Str → Option Value} {base : Heap} {A : Ad}
/-- what a refused making is told by -/
def told (s : Str) : List V := [.str s, .bl true, .bl true, .bl false]
def spMade (A : Ad) : Sp := fun vs H Q _ => (∃ (l : Addr) (a b c d : V), vs = [.str "turn", .ref l] ∧ H l = some (.lst [a, b, c, d]) ∧ (∀ v ∈ [a, b, c, d], FlatV v) ∧
    (∀ s, turnDue a b c d = some s → ∀ p H', H p = none → Ext H H' → H' p = some (.tup (told s)) → Q (.ref p) H') ∧
    (turnDue a b c d = none → ∀ p dx H', H p = none → Ext H H' → H' p = some (.ins A.Turn dx (tF a b c d)) → Q (.ref p) H')) ∨
  (∃ (l : Addr) (v z : V) (r : Option (List V)), vs = [.str "load", .ref l] ∧ H l = some (.lst [v, z]) ∧ RowsAt H v r ∧ FlatV z ∧
    (∀ s, loadDue r z = some s → ∀ p H', H p = none → Ext H H' → H' p = some (.tup (told s)) → Q (.ref p) H') ∧
    (loadDue r z = none → ∀ xs p H', r = some xs → H p = none → Ext H H' → LoadAt A H' p xs z → Q (.ref p) H'))
/-- the readings of the try's body and suite -/
def tbMade (K : PySem.W.Frag) (A : Ad) (W : WX) : TS := tSeq (tIfS (tTest (tOp rEq (tVar 0) (tC (.str "turn"))))
    (tRet (tMakeS A.Turn (spTurnInit A) [] (WE W) (tCons (tOp (rIxL K) (tVar 1) (tC (.int 0))) (tCons (tOp (rIxL K) (tVar 1) (tC (.int 1))) (tCons (tOp (rIxL K) (tVar 1) (tC (.int 2))) (tCons (tOp (rIxL K) (tVar 1) (tC (.int 3))) tNil)))))) tNext)
  (tRet (tMakeS A.Load (spLoadInit A) [] (WE W) (tCons (tOp (rIxL K) (tVar 1) (tC (.int 0))) (tCons (tOp (rIxL K) (tVar 1) (tC (.int 1))) tNil))))
def tsMade (K : PySem.W.Frag) (A : Ad) (a : Addr) (cls : Value) (d : Option Addr) : TS := tRet (tTup (tCons (tXf a cls d A.BadPart "part" (tVar 2)) (tCons (tCB (rIsED K A.BadPart a cls d) (tCons (tVar 2) (tCons (tC (.ref A.WholeError)) tNil)))
  (tCons (tCB (rIsED K A.BadPart a cls d) (tCons (tVar 2) (tCons (tC (.ty "ValueError")) tNil))) (tCons (tCB (rIsED K A.BadPart a cls d) (tCons (tVar 2) (tCons (tC (.ref A.BadIndex)) tNil))) tNil)))))
theorem ok_made {f : Addr} {fd : FuncData} (F : Fun K "_law_made" "_law_made" s__law_made f fd) (T : Txt K mg A) (O_Turn : OwnC P w K mg base (L2.CX P w) "Turn" A.Turn 4 pm_Turn_init (spTurnInit A)) (O_Load : OwnC P w K mg base (L2.CX P w) "Load" A.Load 4 pm_Load_init (spLoadInit A)) :
    FnOk P w K mg base CX0 6 f fd pm__law_made (spMade A) := by
  refine F.ok sc__law_made (fun vs H Q E h => ?_) (fun cdv A' outer s H vs Q E hr h => ?_)
  · rcases h with ⟨_, _, _, _, _, rfl, _⟩ | ⟨_, _, _, _, rfl, _⟩ <;> rfl
  · refine ⟨_, pss_one (ps_try_as (i := 2) (tb := tbMade K A) (ts := tsMade K A) (Wout := fun _ _ _ _ => False) rfl rfl sc__law_made.nd rfl rfl ⟨rfl, by decide, Or.inl T.BadPart.gC⟩ takes0
      (fun W pn xe tk _ => pss_cons (ps_if (pt_cmpR op_eq (pv 0) (pe_str) (nomark _)) (pss_one (ps_ret (by exact (pe_newS O_Turn (hr.mono (by decide)) tk (pa_cons (pe_ix ix_list (pv 1) (pe_int) (fun _ _ => rfl)) (pa_cons (pe_ix ix_list (pv 1) (pe_int) (fun _ _ => rfl)) (pa_cons (pe_ix ix_list (pv 1) (pe_int) (fun _ _ => rfl)) (pa_cons (pe_ix ix_list (pv 1) (pe_int) (fun _ _ => rfl)) pa_nil)))))))) (pss_nil))
        (pss_one (ps_ret (by exact (pe_newS O_Load (hr.mono (by decide)) tk (pa_cons (pe_ix ix_list (pv 1) (pe_int) (fun _ _ => rfl)) (pa_cons (pe_ix ix_list (pv 1) (pe_int) (fun _ _ => rfl)) pa_nil)))))))
      (fun a oe cls d pn hz hf => pss_one (ps_ret (pe_tup (pa_cons (by exact (pe_xf ⟨T.BadPart.ec.hg, T.BadPart.ec.hk, T.BadPart.ec.hs, T.BadPart.ec.hd⟩ T.BadPart.noA hz hf (pv 2)))
        (pa_cons (pe_callB (call_isEX T.BadPart.ec hz hf) (by rfl) T.n_isinstance (by decide +kernel) (pa_cons (pv 2) (pa_cons (pe_gcls T.g_WholeError) pa_nil)))
        (pa_cons (pe_callB (call_isEX T.BadPart.ec hz hf) (by rfl) T.n_isinstance (by decide +kernel) (pa_cons (pv 2) (pa_cons (pe_bltn (v := .ty "ValueError") (by rfl) T.n_ValueError (by decide +kernel) rfl) pa_nil)))
        (pa_cons (pe_callB (call_isEX T.BadPart.ec hz hf) (by rfl) T.n_isinstance (by decide +kernel) (pa_cons (pv 2) (pa_cons (pe_gcls T.g_BadIndex) pa_nil))) pa_nil)))))))), ?_⟩
    -- what is wished for an error of the word s
    have catch_ : ∀ (H0 : Hp) (σ : L2.St) (D : Ends) (st : Str) (e : Addr), H0 e = none → σ.length = 3 → (∀ p H', H0 p = none → Ext H0 H' → H' p = some (.tup (told st)) → D.rt (.ref p) H') →
        wAs K (.ref A.BadPart) 2 (tsMade K A) (fun _ _ _ _ => False) D (.ref A.BadPart) (some e) σ (upd H0 e (.xd [("part", .str st)])) := by
      intro H0 σ D st e he hσ hq
      refine ⟨true, T.x_te, fun _ a ha => ?_, fun q => nomatch q⟩
      have hs : (σ.set 2 (some (.ref a)))[2]? = some (some (.ref a)) := by
        rw [List.getElem?_set_self (by omega)]
      refine ⟨_, hs, rfl, rfl, e, _, _, rfl, upd_same, rfl, ?_⟩
      refine ⟨_, hs, rfl, (fun dd h => ⟨_, by cases h; exact upd_same⟩), .ref A.WholeError, .ref A.WholeError, true, rfl, fun u h => h, T.x_whole, ?_⟩
      refine ⟨_, hs, rfl, (fun dd h => ⟨_, by cases h; exact upd_same⟩), .ty "ValueError", .type "ValueError", true, rfl, fun u h => h, T.x_value, ?_⟩
      refine ⟨_, hs, rfl, (fun dd h => ⟨_, by cases h; exact upd_same⟩), .ref A.BadIndex, .ref A.BadIndex, false, rfl, fun u h => h, T.x_index, ?_⟩
      refine ⟨by show 4 ≤ sizeLine; decide, fun p hp => ?_⟩
      have e1 := Ext.upd (o := .xd [("part", .str st)]) he
      exact hq p _ (ext_none e1 hp) (e1.upd' hp) upd_same
    rcases h with ⟨l, a, b, c, d, rfl, hl, hk, q1, q2⟩ | ⟨l, v, z, r, rfl, hl, hv, hz, q1, q2⟩
    · refine ⟨_, rfl, rfl, _, rfl, ?_⟩
      refine iteT ?_
      refine ⟨_, rfl, l, _, 0, a, rfl, rfl, SqL.of hl, rfl, _, rfl, l, _, 1, b, rfl, rfl, SqL.of hl, rfl, _, rfl, l, _, 2, c, rfl, rfl, SqL.of hl, rfl, _, rfl, l, _, 3, d, rfl, rfl, SqL.of hl, rfl, fun x dx hx hdx hne => ?_⟩
      have e0 := (Ext.upd (o := .own x) hdx).upd' (o := .ins A.Turn dx []) (by rw [upd_ne hne.symm]; exact hx)
      refine ⟨x, dx, a, b, c, d, rfl, upd_same, fun v hv => ?_, fun st hst e he => ?_, fun hno H' hH hB => ⟨rfl, ?_⟩⟩
      · obtain ⟨k, hk', _⟩ := (hk v hv).k (upd (upd H dx (.own x)) x (.ins A.Turn dx []))
        exact ⟨k, hk'⟩
      · exact catch_ _ _ _ st e he rfl fun p H' hp e1 ht => q1 st hst p H' (ext_none e0 hp) (e0.trans e1) ht
      · refine q2 hno x dx H' hx (fun y o ho => ?_) hH
        rw [hB y (ne_of_none ho hx)]
        exact e0 y o ho
    · refine ⟨_, rfl, rfl, _, rfl, ?_⟩
      refine iteF ?_
      refine ⟨_, rfl, l, _, 0, v, rfl, rfl, SqL.of hl, rfl, _, rfl, l, _, 1, z, rfl, rfl, SqL.of hl, rfl, fun x dx hx hdx hne => ?_⟩
      have e0 := (Ext.upd (o := .own x) hdx).upd' (o := .ins A.Load dx []) (by rw [upd_ne hne.symm]; exact hx)
      obtain ⟨kz, hkz, _⟩ := hz.k (upd (upd H dx (.own x)) x (.ins A.Load dx []))
      refine ⟨x, dx, v, z, r, rfl, upd_same, ?_, ⟨kz, hkz⟩, fun st hst H' e1 e he => ?_, fun hno xs H' hr' hl' hB => ⟨rfl, ?_⟩⟩
      · cases r with
        | none =>
          obtain ⟨k, hk, hs⟩ := hv
          exact ⟨k, hk.ext e0, hs⟩
        | some xs =>
          obtain ⟨p', rfl, hx', hkx, hlen⟩ := hv
          exact ⟨p', rfl, hx'.ext e0, fun y hy => let ⟨k, hk⟩ := hkx y hy; ⟨k, hk.ext e0⟩, hlen⟩
      · exact catch_ _ _ _ st e he rfl fun p H2 hp e2 ht => q1 st hst p H2 (ext_none (e0.trans e1) hp) ((e0.trans e1).trans e2) ht
      · obtain ⟨rr, h1, h2⟩ := hl'
        exact q2 hno xs x H' hr' hx (fun y o ho => hB y o (ne_of_none ho hx) (e0 y o ho)) ⟨dx, rr, h1, h2⟩
end
end K22

set_option Elab.async false
set_option maxRecDepth 100000
set_option maxHeartbeats 4000000
namespace K22
open PySem PySem.Spec PyProof.Rows L2
section
variable {P : Program} {w : World} {K : PySem.W.Frag} {mg : Str → Option Value} {base : Heap} {A : Ad}
theorem told_fl {s : Str} (h : PySem.PyData.canLay0 (.str s) = true) : ∀ v ∈ told s, Fl v := by
  intro v hv
  simp only [told, List.mem_cons, List.not_mem_nil, or_false] at hv
  rcases hv with rfl | rfl | rfl | rfl
  · exact h
  · exact trivial
  · exact trivial
  · exact trivial
theorem due_lay {a b c d : V} {s : Str} (h : turnDue a b c d = some s) : PySem.PyData.canLay0 (.str s) = true := by
  unfold turnDue at h
  split at h
  · cases h; decide +kernel
  · split at h
    · split at h
      · cases h; decide +kernel
      · split at h
        · cases h; decide +kernel
        · split at h
          · cases h; decide +kernel
          · cases h
    · cases h
theorem due_none {a b c d : V} (h : turnDue a b c d = none) (ha : FlatV a) : ∃ x y z t : Int, a = .int x ∧ b = .int y ∧ c = .int z ∧ d = .int t ∧ 1 ≤ x ∧ x ≤ y ∧ y ≤ 50 ∧ 1 ≤ z ∧ z ≤ 200 ∧ 2 ≤ t ∧ t ≤ 8 := by
  unfold turnDue at h
  cases h1 : betw a 1 50 with
  | false => rw [h1, if_pos rfl] at h; cases h
  | true =>
    obtain ⟨x, rfl, x1, x2⟩ := bt h1
    rw [h1, if_neg (by decide)] at h
    dsimp only at h
    cases h2 : betw b x 50 with
    | false => rw [h2, if_pos rfl] at h; cases h
    | true =>
      obtain ⟨y, rfl, y1, y2⟩ := bt h2
      rw [h2, if_neg (by decide)] at h
      cases h3 : betw c 1 200 with
      | false => rw [h3, if_pos rfl] at h; cases h
      | true =>
        obtain ⟨z, rfl, z1, z2⟩ := bt h3
        rw [h3, if_neg (by decide)] at h
        cases h4 : betw d 2 8 with
        | false => rw [h4, if_pos rfl] at h; cases h
        | true =>
          obtain ⟨t, rfl, t1, t2⟩ := bt h4
          exact ⟨x, y, z, t, rfl, rfl, rfl, rfl, x1, y1, y2, z1, z2, t1, t2⟩
theorem due_ok {x y z t : Int} (h : 1 ≤ x ∧ x ≤ y ∧ y ≤ 50 ∧ 1 ≤ z ∧ z ≤ 200 ∧ 2 ≤ t ∧ t ≤ 8) : turnDue (.int x) (.int y) (.int z) (.int t) = none := by
  unfold turnDue
  rw [if_neg (by rw [betw_int]; simp; omega)]
  dsimp only
  rw [if_neg (by rw [betw_int]; simp; omega), if_neg (by rw [betw_int]; simp; omega), if_neg (by rw [betw_int]; simp; omega)]
def spTurns : Sp := fun vs H Q _ => ∃ (b s : Addr) (N : Nat), vs = [.ref b] ∧ BoxAt H b s N ∧ N ≤ 900000 ∧ ∀ H', BoxAt H' b s (N + 20) → ExtB b H H' → Q (.bl true) H'
theorem ok_turns {f : Addr} {fd : FuncData} (F : Fun K "_law_turns" "_law_turns" s__law_turns f fd) (T : Txt K mg A) (O__law_value : Own P w K mg base CX0 "_law_value" 2 pm__law_value spValue) (O__law_fits : Own P w K mg base CX0 "_law_fits" 1 pm__law_fits spFits)
    (O__law_turn_due : Own P w K mg base CX0 "_law_turn_due" 2 pm__law_turn_due (spTurnDue K)) (O__law_made : Own P w K mg base CX0 "_law_made" 6 pm__law_made (spMade A)) (O__law_draw : Own P w K mg base CX0 "_law_draw" 1 pm__law_draw spDraw)
    (O_Turn : OwnC P w K mg base (L2.CX P w) "Turn" A.Turn 4 pm_Turn_init (spTurnInit A)) (O_Turn_eq : OwnM P w K mg base CX0 A.Turn "__eq__" 1 pm_Turn_eq (spTurnEq A)) : FnOk P w K mg base CX0 8 f fd pm__law_turns spTurns := by
  refine F.ok sc__law_turns (fun vs H Q E h => ?_) (fun cdv A' outer s H vs Q E hr h => ?_)
  · obtain ⟨_, _, _, rfl, _⟩ := h
    rfl
  · obtain ⟨b, sb, N, rfl, hb, hN, k⟩ := h
    refine ⟨_, pss_cons (ps_set (i := 1) sc__law_turns.nd rfl (Or.inl rfl) (pe_lst (pa_cons (pe_own O__law_value (hr.mono (by decide)) pass0 (pa_cons (pv 0) (pa_cons (pe_int) (pa_cons (pe_int) pa_nil)))) (pa_cons (pe_int) (pa_cons (pe_own O__law_value (hr.mono (by decide)) pass0 (pa_cons (pv 0) (pa_cons (pe_int) (pa_cons (pe_int) pa_nil)))) (pa_cons (pe_own O__law_value (hr.mono (by decide)) pass0 (pa_cons (pv 0) (pa_cons (pe_int) (pa_cons (pe_int) pa_nil)))) pa_nil))))))
      (Evl.pss_cut (ps_asg (pe_own O__law_value (hr.mono (by decide)) pass0 (pa_cons (pv 0) (pa_cons (pe_ifExp (pt_val (pe_own O__law_fits (hr.mono (by decide)) pass0 (pa_cons (pe_ix ix_list (pv 1) (pe_int) (fun _ _ => rfl)) (pa_cons (pe_int) (pa_cons (pe_int) pa_nil))))) (pe_ix ix_list (pv 1) (pe_int) (fun _ _ => rfl)) (pe_int)) (pa_cons (pe_int) pa_nil)))) (pg_sub (pv 1) (pe_int) set_list))
      (pss_cons (ps_set (i := 2) sc__law_turns.nd rfl (Or.inl rfl) (pe_own O__law_turn_due (hr.mono (by decide)) pass0 (pa_cons (pv 1) pa_nil)))
      (pss_cons (ps_set (i := 3) sc__law_turns.nd rfl (Or.inl rfl) (pe_own O__law_made (hr.mono (by decide)) pass0 (pa_cons (pe_str) (pa_cons (pv 1) pa_nil))))
      (pss_cons (ps_if (pt_cmpR op_notN (pv 2) (pe_non) (nomark _)) (pss_one (ps_ret (pe_cmpR (op_eqD hr.units) (pv 3) (pe_tup (pa_cons (pv 2) (pa_cons (pe_bl) (pa_cons (pe_bl) (pa_cons (pe_bl) pa_nil))))) (nomark _)))) (pss_nil))
      (pss_cons (ps_if (PW.pt (pw_or (pt_val (pe_callB call_isi (by rfl) T.n_isinstance (by decide +kernel) (pa_cons (pv 3) (pa_cons (pe_bltn (v := .ty "tuple") (by rfl) T.n_tuple (by decide +kernel) rfl) pa_nil)))) (pw_or1 (pt_cmpR (op_neD hr.units) (pe_tup (pa_cons (pe_fld (pv 3) rfl) (pa_cons (pe_fld (pv 3) rfl) (pa_cons (pe_fld (pv 3) rfl) (pa_cons (pe_fld (pv 3) rfl) pa_nil))))) (pe_callTy call_tuple_of (by rfl) T.n_tuple (by decide +kernel) (pa_cons (pv 1) pa_nil)) (nomark _))))) (pss_one (ps_ret (pe_bl))) (pss_nil))
      (pss_cons (ps_set (i := 4) sc__law_turns.nd rfl (Or.inl rfl) (pe_lst (pa_cons (pe_int) (pa_cons (pe_int) (pa_cons (pe_int) (pa_cons (pe_int) pa_nil))))))
      (pss_cons (ps_set (i := 5) sc__law_turns.nd rfl (Or.inl rfl) (pe_own O__law_draw (hr.mono (by decide)) pass0 (pa_cons (pv 0) (pa_cons (pe_int) pa_nil))))
      (Evl.pss_cut (ps_if (pt_cmpR op_lt (pv 5) (pe_int) (nomark _)) (pss_cons (ps_set (i := 4) sc__law_turns.nd rfl (Or.inl rfl) (pe_callTy call_list_of (by rfl) T.n_list (by decide +kernel) (pa_cons (pv 1) pa_nil)))
      (pss_one (ps_asg (pe_ix ix_list (pe_lst (pa_cons (pe_int) (pa_cons (pe_int) (pa_cons (pe_int) (pa_cons (pe_int) pa_nil))))) (pv 5) (fun _ _ => rfl)) (pg_sub (pv 4) (pv 5) set_list)))) (pss_nil))
      (pss_one (ps_ret (pe_and (pe_cmpR op_eq (pe_cmpR (eqO O_Turn_eq T.Turn.neM (hr.mono (by decide)) pass0) (pv 3) (pe_new O_Turn (hr.mono (by decide)) passL (pa_cons (pe_ix ix_list (pv 4) (pe_int) (fun _ _ => rfl)) (pa_cons (pe_ix ix_list (pv 4) (pe_int) (fun _ _ => rfl)) (pa_cons (pe_ix ix_list (pv 4) (pe_int) (fun _ _ => rfl)) (pa_cons (pe_ix ix_list (pv 4) (pe_int) (fun _ _ => rfl)) pa_nil))))) (nomark _)) (pe_cmpR (op_eqD hr.units) (pv 4) (pv 1) (nomark _)) (nomark _)) (pe_one (pe_cmpR (neO O_Turn_eq T.Turn.neM (hr.mono (by decide)) pass0) (pv 3) (pe_callTy call_tuple_of (by rfl) T.n_tuple (by decide +kernel) (pa_cons (pv 1) pa_nil)) (nomark _)))))))))))))), ?_⟩
    -- the four values
    refine ⟨_, rfl, b, sb, N, 1, 50, rfl, hb, by omega, by omega, by omega, fun v1 H1 f1 hb1 x1 => ?_⟩
    refine ⟨_, rfl, b, sb, N + 2, 1, 200, rfl, hb1, by omega, by omega, by omega, fun v3 H3 f3 hb3 x3 => ?_⟩
    refine ⟨_, rfl, b, sb, N + 4, 2, 8, rfl, hb3, by omega, by omega, by omega, fun v4 H4 f4 hb4 x4 => ⟨by show 4 ≤ sizeLine; decide, fun l hl => ?_⟩⟩
    obtain ⟨nlb, nls⟩ := hb4.new hl
    have xl : ExtB b H (upd H4 l (.lst [v1, .int 0, v3, v4])) := ((x1.trans x3).trans x4).trans (Ext.b (Ext.upd hl))
    -- the second one again
    obtain ⟨k1, hk1, _⟩ := f1.k (upd H4 l (.lst [v1, .int 0, v3, v4]))
    refine ⟨fun σ H' => σ = [some (.ref b), some (.ref l), Option.none, Option.none, Option.none, Option.none] ∧ ∃ v2, FlatV v2 ∧ H' l = some (.lst [v1, v2, v3, v4]) ∧ BoxAt H' b sb (N + 8) ∧ ExtB b H H', ?_, ?_⟩
    · refine ⟨_, rfl, _, rfl, l, _, 0, v1, rfl, rfl, SqL.of upd_same, rfl, v1, k1, 1, 50, rfl, hk1, _, rfl, ?_⟩
      have fin : ∀ (v2 : V) (H5 : Hp), FlatV v2 → BoxAt H5 b sb (N + 8) → ExtB b (upd H4 l (.lst [v1, .int 0, v3, v4])) H5 → BoxAt (upd H5 l (.lst [v1, v2, v3, v4])) b sb (N + 8) ∧ ExtB b H (upd H5 l (.lst [v1, v2, v3, v4])) ∧ H5 l = some (.lst [v1, .int 0, v3, v4]) := fun v2 H5 f2 hb5 x5 =>
        ⟨hb5.upd nlb nls, (((x1.trans x3).trans x4).trans fun x o hx ho => x5 x o hx (by rw [upd_ne (ne_of_none ho hl)]; exact ho)).mut (by
          cases e : H l with
          | none => rfl
          | some o =>
            have z := ((x1.trans x3).trans x4) l o nlb e
            rw [hl] at z
            cases z), x5 l _ nlb upd_same⟩
      cases h1 : betw v1 1 50 with
      | true =>
        obtain ⟨n, rfl, n1, n2⟩ := bt h1
        refine iteT ⟨_, rfl, l, _, 0, .int n, rfl, rfl, SqL.of upd_same, rfl, b, sb, N + 6, n, 50, rfl, hb4.upd nlb nls, by omega, by omega, by omega, fun v2 H5 f2 hb5 x5 => ?_⟩
        obtain ⟨g1, g2, g3⟩ := fin v2 H5 f2 hb5 x5
        exact ⟨_, rfl, l, _, 1, 1, rfl, rfl, g3, rfl, rfl, v2, f2, upd_same, g1, g2⟩
      | false =>
        refine iteF ⟨b, sb, N + 6, 1, 50, rfl, hb4.upd nlb nls, by omega, by omega, by omega, fun v2 H5 f2 hb5 x5 => ?_⟩
        obtain ⟨g1, g2, g3⟩ := fin v2 H5 f2 hb5 x5
        exact ⟨_, rfl, l, _, 1, 1, rfl, rfl, g3, rfl, rfl, v2, f2, upd_same, g1, g2⟩
    · rintro σ H5 ⟨rfl, v2, f2, hl5, hb5, x5⟩
      have hfl : ∀ v ∈ [v1, v2, v3, v4], FlatV v := by
        intro v hv
        simp only [List.mem_cons, List.not_mem_nil, or_false] at hv
        rcases hv with rfl | rfl | rfl | rfl <;> assumption
      refine ⟨_, rfl, l, v1, v2, v3, v4, rfl, hl5, fun v hv => let ⟨k, hk, _⟩ := (hfl v hv).k H5; ⟨k, hk⟩, ?_⟩
      cases hdue : turnDue v1 v2 v3 v4 with
      | some st =>
        refine ⟨_, rfl, .inl ⟨l, v1, v2, v3, v4, rfl, hl5, hfl, fun s' hs' p H6 hp e6 ht => ?_, fun hno => by rw [hdue] at hno; cases hno⟩⟩
        rw [hdue] at hs'
        cases hs'
        refine ⟨_, rfl, rfl, _, rfl, ?_⟩
        refine iteT ?_
        refine ⟨_, rfl, _, rfl, by show 4 ≤ sizeLine; decide, fun p2 hp2 => ?_⟩
        have tf := told_fl (due_lay hdue)
        have ht2 : upd H6 p2 (.tup (told st)) p = some (.tup (told st)) := by
          rw [upd_ne (ne_of_none ht hp2)]
          exact ht
        refine ⟨_, _, .tup (SqT.of ht2) (dp_all tf), .tup (SqT.of upd_same) (dp_all (vs := told st) tf), shp_tup tf, shp_tup (vs := told st) tf, ?_⟩
        show Q (.bl (PyData.eqvAll ((told st).map pd) ((told st).map pd))) _
        rw [eqv_same tf]
        exact k _ (((hb5.ext e6).ext (Ext.upd hp2)).le (by omega)) (x5.trans (Ext.b (e6.upd' hp2)))
      | none =>
        obtain ⟨x, y, z, t, rfl, rfl, rfl, rfl, x1', xy, y2, z1, z2, t1, t2⟩ := due_none hdue f1
        refine ⟨_, rfl, .inl ⟨l, _, _, _, _, rfl, hl5, hfl, fun s' hs' => (by rw [hdue] at hs'; cases hs'), fun hno p dx H6 hp e6 hp6 => ?_⟩⟩
        refine ⟨_, rfl, rfl, _, rfl, iteF ?_⟩
        have hl6 := e6 _ _ hl5
        refine ⟨_, rfl, _, .ty "tuple", .ref A.Turn, .type "tuple", false, rfl, .ty _, T.Turn.tyOf hp6, T.Turn.kTup, _, rfl, iteF ?_⟩
        refine ⟨_, rfl, p, A.Turn, dx, _, _, rfl, hp6, T.Turn.cl, T.t_least, rfl, _, rfl, p, A.Turn, dx, _, _, rfl, hp6, T.Turn.cl, T.t_most, rfl, _, rfl, p, A.Turn, dx, _, _, rfl, hp6, T.Turn.cl, T.t_turn, rfl, _, rfl, p, A.Turn, dx, _, _, rfl, hp6, T.Turn.cl, T.t_numbers, rfl, by show 4 ≤ sizeLine; decide, fun q1 hq1 => ?_⟩
        have e7 := Ext.upd (o := .tup [.int x, .int y, .int z, .int t]) hq1
        refine ⟨_, rfl, l, _, rfl, .inl ⟨SqL.of (e7 _ _ hl6), fun q2 hq2 => ?_⟩⟩
        have e8 := e7.upd' (o := .tup [.int x, .int y, .int z, .int t]) hq2
        have tf : ∀ v ∈ ([.int x, .int y, .int z, .int t] : List V), Fl v := fun v hv => (hfl v hv).fl
        have hq12 : upd (upd H6 q1 (.tup [.int x, .int y, .int z, .int t])) q2 (.tup [.int x, .int y, .int z, .int t]) q1 = some (.tup [.int x, .int y, .int z, .int t]) := by
          rw [upd_ne (ne_of_none upd_same hq2)]
          exact upd_same
        refine ⟨_, _, .tup (SqT.of hq12) (dp_all tf), .tup (SqT.of upd_same) (dp_all tf), shp_tup tf, shp_tup tf, _, rfl, ?_⟩
        show if (!PyData.eqvAll (([.int x, .int y, .int z, .int t] : List V).map pd) (([.int x, .int y, .int z, .int t] : List V).map pd)) = true then _ else _
        rw [eqv_same tf]
        refine iteF ?_
        -- another turn
        refine ⟨by show 4 ≤ sizeLine; decide, fun o1 ho1 => ?_⟩
        have e9 := (e6.trans e8).upd' (o := .lst [.int 1, .int 50, .int 7, .int 3]) ho1
        refine ⟨_, rfl, b, sb, N + 8, 5, rfl, hb5.ext e9, by omega, by omega, by omega, fun pl H8 p0 p1 hb8 but8 => ?_⟩
        have x8 : ExtB b H H8 := (x5.trans (Ext.b e9)).trans but8.ext
        have keep : ∀ a o, a ≠ b → upd (upd (upd H6 q1 (.tup [.int x, .int y, .int z, .int t])) q2 (.tup [.int x, .int y, .int z, .int t])) o1 (.lst [.int 1, .int 50, .int 7, .int 3]) a = some o → H8 a = some o := fun a o ha h => (but8 a ha).trans h
        have pb : ∀ {a : Addr} {H : Hp} {o : HO}, BoxAt H b sb (N + 8) → H a = some o → (∀ xs, o ≠ .lst xs) → a ≠ b := by
          intro a H o hbx h hno z
          obtain ⟨ns, i, q, r, hb, _⟩ := hbx
          rw [z, hb] at h
          cases h
          exact hno _ rfl
        have npb : p ≠ b := pb (hb5.ext e6) hp6 fun xs z => nomatch z
        have hp8 : H8 p = some (.ins A.Turn dx (tF (.int x) (.int y) (.int z) (.int t))) := keep _ _ npb (by rw [upd_ne (ne_of_none (e8 _ _ hp6) ho1)]; exact e8 _ _ hp6)
        have hl8 : H8 l = some (.lst [.int x, .int y, .int z, .int t]) := keep _ _ nlb (by rw [upd_ne (ne_of_none (e8 _ _ hl6) ho1)]; exact e8 _ _ hl6)
        have no1 : o1 ≠ b := (((hb5.ext e6).ext e8).new ho1).1
        have ho8 : H8 o1 = some (.lst [.int 1, .int 50, .int 7, .int 3]) := keep _ _ no1 upd_same
        refine ⟨fun σ H' => ∃ (o : Addr) (x' y' z' t' : Int), σ = [some (.ref b), some (.ref l), some .non, some (.ref p), some (.ref o), some (.int pl)] ∧ H' o = some (.lst [.int x', .int y', .int z', .int t']) ∧ (1 ≤ x' ∧ x' ≤ y' ∧ y' ≤ 50 ∧ 1 ≤ z' ∧ z' ≤ 200 ∧ 2 ≤ t' ∧ t' ≤ 8) ∧ BoxAt H' b sb (N + 9) ∧ ExtB b H8 H', ?_, ?_⟩
        · refine ⟨_, rfl, _, _, rfl, rfl, _, rfl, ?_⟩
          by_cases h4 : pl < 4
          · rw [decide_eq_true h4]
            refine iteT ?_
            refine ⟨_, rfl, l, _, rfl, .inl (SqL.of hl8), fun o2 ho2 => ?_⟩
            have hbo := hb8.ext (Ext.upd (o := .lst [.int x, .int y, .int z, .int t]) ho2)
            have nob := (hb8.new ho2)
            refine ⟨by show 4 ≤ sizeLine; decide, fun o3 ho3 => ?_⟩
            have n32 : o2 ≠ o3 := ne_of_none upd_same ho3
            have e11 := (Ext.upd (o := .lst [.int x, .int y, .int z, .int t]) ho2).upd' (o := .lst [.int 1, .int 50, .int 77, .int 5]) ho3
            have ho2' : upd (upd H8 o2 (.lst [.int x, .int y, .int z, .int t])) o3 (.lst [.int 1, .int 50, .int 77, .int 5]) o2 = some (.lst [.int x, .int y, .int z, .int t]) := by
              rw [upd_ne n32]
              exact upd_same
            have hb9 := hbo.ext (Ext.upd (o := .lst [.int 1, .int 50, .int 77, .int 5]) ho3)
            have xm : ∀ o, ExtB b H8 (upd (upd (upd H8 o2 (.lst [.int x, .int y, .int z, .int t])) o3 (.lst [.int 1, .int 50, .int 77, .int 5])) o2 o) := fun o => (Ext.b e11).mut ho2
            have hpl : pl = 0 ∨ pl = 1 ∨ pl = 2 ∨ pl = 3 := by omega
            rcases hpl with rfl | rfl | rfl | rfl
            · refine ⟨_, rfl, o3, _, 0, _, rfl, rfl, SqL.of upd_same, rfl, _, rfl, _, rfl, o2, _, 0, 0, rfl, rfl, ho2', rfl, ?_⟩
              exact ⟨o2, 1, y, z, t, rfl, upd_same, by omega, hb9.upd nob.1 nob.2, xm _⟩
            · refine ⟨_, rfl, o3, _, 1, _, rfl, rfl, SqL.of upd_same, rfl, _, rfl, _, rfl, o2, _, 1, 1, rfl, rfl, ho2', rfl, ?_⟩
              exact ⟨o2, x, 50, z, t, rfl, upd_same, by omega, hb9.upd nob.1 nob.2, xm _⟩
            · refine ⟨_, rfl, o3, _, 2, _, rfl, rfl, SqL.of upd_same, rfl, _, rfl, _, rfl, o2, _, 2, 2, rfl, rfl, ho2', rfl, ?_⟩
              exact ⟨o2, x, y, 77, t, rfl, upd_same, by omega, hb9.upd nob.1 nob.2, xm _⟩
            · refine ⟨_, rfl, o3, _, 3, _, rfl, rfl, SqL.of upd_same, rfl, _, rfl, _, rfl, o2, _, 3, 3, rfl, rfl, ho2', rfl, ?_⟩
              exact ⟨o2, x, y, z, 5, rfl, upd_same, by omega, hb9.upd nob.1 nob.2, xm _⟩
          · rw [decide_eq_false h4]
            exact iteF ⟨o1, 1, 50, 7, 3, rfl, ho8, by omega, hb8, ExtB.refl⟩
        · rintro σ H9 ⟨o, x', y', z', t', rfl, ho, hr', hb9, x9⟩
          have hp9 := x9 _ _ npb hp8
          have hl9 := x9 _ _ nlb hl8
          refine ⟨_, rfl, _, rfl, o, _, 0, .int x', rfl, rfl, SqL.of ho, rfl, _, rfl, o, _, 1, .int y', rfl, rfl, SqL.of ho, rfl, _, rfl, o, _, 2, .int z', rfl, rfl, SqL.of ho, rfl, _, rfl, o, _, 3, .int t', rfl, rfl, SqL.of ho, rfl, fun n dn hn hdn hne => ?_⟩
          have e0 := (Ext.upd (o := .own n) hdn).upd' (o := .ins A.Turn dn []) (by rw [upd_ne hne.symm]; exact hn)
          refine ⟨n, dn, _, _, _, _, rfl, upd_same, fun v hv => ?_, fun s' hs' => (by rw [due_ok hr'] at hs'; cases hs'), fun _ Hn hHn hBn => ⟨rfl, ?_⟩⟩
          · simp only [List.mem_cons, List.not_mem_nil, or_false] at hv
            rcases hv with rfl | rfl | rfl | rfl <;> exact ⟨.int, _, rfl⟩
          · have en : Ext H9 Hn := fun a o' h => by rw [hBn a (ne_of_none h hn)]; exact e0 a o' h
            refine ⟨p, dx, _, .ref A.Turn, rfl, en _ _ hp9, T.Turn.tyOf hHn, T.Turn.nfMe, p, x, y, z, t, _, rfl, ⟨dx, en _ _ hp9⟩, .inl ⟨n, x', y', z', t', rfl, ⟨dn, hHn⟩, _, rfl, ?_⟩⟩
            have ti : ∀ (a b c d : Int), ∀ v ∈ ([.int a, .int b, .int c, .int d] : List V), Fl v := fun a b c d => fl_ints (ns := [a, b, c, d])
            refine ⟨_, rfl, _, rfl, _, _, .lst (SqL.of (en _ _ ho)) (dp_all (ti _ _ _ _)), .lst (SqL.of (en _ _ hl9)) (dp_all (ti _ _ _ _)), shp_lst (ti _ _ _ _), shp_lst (ti _ _ _ _), rfl, _, rfl, ?_⟩
            have ee : PyData.eqvAll (([.int x', .int y', .int z', .int t'] : List V).map pd) (([.int x, .int y, .int z, .int t] : List V).map pd) = decide (x = x' ∧ y = y' ∧ z = z' ∧ t = t') := by
              rw [show ([.int x', .int y', .int z', .int t'] : List V) = ([x', y', z', t'] : List Int).map V.int from rfl, show ([.int x, .int y, .int z, .int t] : List V) = ([x, y, z, t] : List Int).map V.int from rfl, eqv_ints, Bool.eq_iff_iff, decide_eq_true_eq, decide_eq_true_eq]
              constructor
              · intro z
                injection z with z1 z
                injection z with z2 z
                injection z with z3 z
                injection z with z4 z
                exact ⟨z1.symm, z2.symm, z3.symm, z4.symm⟩
              · rintro ⟨rfl, rfl, rfl, rfl⟩
                rfl
            show if decide (V.bl (decide (x = x' ∧ y = y' ∧ z = z' ∧ t = t')) = V.bl (PyData.eqvAll (([.int x', .int y', .int z', .int t'] : List V).map pd) (([.int x, .int y, .int z, .int t] : List V).map pd))) = true then _ else _
            rw [ee, decide_eq_true rfl]
            refine iteT ?_
            refine ⟨_, rfl, _, rfl, l, _, rfl, .inl ⟨SqL.of (en _ _ hl9), fun q3 hq3 => ?_⟩⟩
            have e4 := en.upd' (o := .tup [.int x, .int y, .int z, .int t]) hq3
            refine ⟨p, dx, _, .type Knd.tuple.name, rfl, e4 _ _ hp9, knd_ty (k := .tuple) ⟨q3, _, rfl, upd_same⟩, T.Turn.nfK .tuple, p, x, y, z, t, _, rfl, ⟨dx, e4 _ _ hp9⟩, .inr ⟨.tuple, ⟨q3, _, rfl, upd_same⟩, _, rfl, ?_⟩⟩
            exact k _ ((hb9.ext e4).le (by omega)) ((x8.trans x9).trans (Ext.b e4))
end
end K22

set_option Elab.async false
set_option maxRecDepth 100000
set_option maxHeartbeats 4000000
namespace L2
open PySem PySem.Spec PyProof.Rows
section
variable {X : Cx}
theorem cut_whole {xs : List V} {lo hi : Option Int} (h : HT.sIx xs.length 0 lo = 0 ∧ HT.sIx xs.length xs.length hi = xs.length) : cutV xs lo hi = xs := by
  unfold cutV
  rw [h.1, h.2]
  simp
/-- a slice of a tuple, whichever object it is -/
def rSlE : V → Option Int → Option Int → Hp → VK → Prop := fun x lo hi H Q => ∃ a xs, x = .ref a ∧ H a = some (.tup xs) ∧ ∀ p H', Ext H H' → H' p = some (.tup (cutV xs lo hi)) → Q (.ref p) H'
theorem sl_tupE : SlR X rSlE := by
  intro pins s σ H x v vl vu lo hi sl Q I rx hs pl pu h
  obtain ⟨a, xs, rfl, ha, q⟩ := h
  exact sl_tupA pins s σ H _ v vl vu lo hi sl Q I rx hs pl pu ⟨a, xs, rfl, SqT.of ha, fun hw => q a H Ext.rfl' (by rw [cut_whole hw]; exact ha), fun _ p hp => q p _ (Ext.upd hp) upd_same⟩
/-- the sum of two tuples, whichever object it is -/
def rCatE : R2 := fun x y H Q => ∃ a b xs ys, x = .ref a ∧ y = .ref b ∧ H a = some (.tup xs) ∧ H b = some (.tup ys) ∧ xs.length + ys.length ≤ sizeLine ∧ ∀ p H', Ext H H' → H' p = some (.tup (xs ++ ys)) → Q (.ref p) H'
theorem op_catE : OpR X (binaryOp .Add) rCatE := by
  intro pins s σ H x y v u Q I rx ry h
  obtain ⟨a, b, xs, ys, rfl, rfl, ha, hb, hz, q⟩ := h
  refine op_catA pins s σ H _ _ v u Q I rx ry ⟨a, b, xs, ys, rfl, rfl, SqT.of ha, SqT.of hb, hz, fun e => q b H Ext.rfl' ?_, fun _ e => q a H Ext.rfl' ?_, fun _ _ p hp => q p _ (Ext.upd hp) upd_same⟩
  · subst e
    exact hb
  · subst e
    rw [List.append_nil]
    exact ha
end
end L2
namespace K22
open PySem PySem.Spec PyProof.Rows L2
section
variable {P : Program} {w : World} {K : PySem.W.Frag} {mg : Str → Option Value} {base : Heap} {A : Ad}
theorem dueL_lay {r : Option (List V)} {z : V} {s : Str} (h : loadDue r z = some s) : PySem.PyData.canLay0 (.str s) = true := by
  unfold loadDue at h
  split at h
  · cases h; decide +kernel
  · split at h
    · cases h; decide +kernel
    · split at h
      · cases h; decide +kernel
      · split at h
        · cases h; decide +kernel
        · cases h
theorem all_betw : ∀ {xs : List V} {a b : Int}, xs.all (fun x => betw x a b) = true → ∃ ns : List Int, xs = ns.map V.int ∧ ∀ n ∈ ns, a ≤ n ∧ n ≤ b
  | [], _, _, _ => ⟨[], rfl, fun _ h => nomatch h⟩
  | x :: xs, a, b, h => by
    rw [List.all_cons, Bool.and_eq_true] at h
    obtain ⟨n, rfl, h1, h2⟩ := bt h.1
    obtain ⟨ns, rfl, hn⟩ := all_betw h.2
    refine ⟨n :: ns, rfl, fun m hm => ?_⟩
    rcases List.mem_cons.mp hm with rfl | hm
    · exact ⟨h1, h2⟩
    · exact hn m hm
theorem dueL_none {xs : List V} {z : V} (h : loadDue (some xs) z = none) : ∃ (ns : List Int) (n : Int), xs = ns.map V.int ∧ z = .int n ∧ 1 ≤ ns.length ∧ ns.length ≤ 3 ∧ (∀ m ∈ ns, 1 ≤ m ∧ m ≤ 600) ∧ 1 ≤ n ∧ n ≤ 500 := by
  unfold loadDue at h
  dsimp only at h
  cases h1 : (decide (1 ≤ xs.length) && decide (xs.length ≤ 3)) with
  | false => rw [h1, if_pos rfl] at h; cases h
  | true =>
    rw [h1, if_neg (by decide)] at h
    cases h2 : xs.all (fun x => betw x 1 600) with
    | false => rw [h2, if_pos rfl] at h; cases h
    | true =>
      rw [h2, if_neg (by decide)] at h
      cases h3 : betw z 1 500 with
      | false => rw [h3, if_pos rfl] at h; cases h
      | true =>
        obtain ⟨n, rfl, n1, n2⟩ := bt h3
        obtain ⟨ns, rfl, hn⟩ := all_betw h2
        rw [Bool.and_eq_true, decide_eq_true_eq, decide_eq_true_eq, List.length_map] at h1
        exact ⟨ns, n, rfl, rfl, h1.1, h1.2, hn, n1, n2⟩
theorem dueL_ok {ms : List Int} {n : Int} (h1 : 1 ≤ ms.length) (h2 : ms.length ≤ 3) (h3 : ∀ m ∈ ms, 1 ≤ m ∧ m ≤ 600) (h4 : 1 ≤ n ∧ n ≤ 500) : loadDue (some (ms.map V.int)) (.int n) = none := by
  unfold loadDue
  dsimp only
  have e1 : (decide (1 ≤ (ms.map V.int).length) && decide ((ms.map V.int).length ≤ 3)) = true := by
    rw [List.length_map, decide_eq_true h1, decide_eq_true h2]
    rfl
  have e2 : (ms.map V.int).all (fun x => betw x 1 600) = true := by
    rw [List.all_eq_true]
    intro x hx
    obtain ⟨m, hm, rfl⟩ := List.mem_map.mp hx
    obtain ⟨a, b⟩ := h3 m hm
    rw [betw_int, decide_eq_true a, decide_eq_true b]
    rfl
  have e3 : betw (.int n) 1 500 = true := by
    rw [betw_int, decide_eq_true h4.1, decide_eq_true h4.2]
    rfl
  rw [e1, e2, e3]
  rfl
theorem rowsI {H : Hp} {p : Addr} {ms : List Int} (h : Sq H p (ms.map V.int)) (h2 : ms.length ≤ 3) : RowsAt H (.ref p) (some (ms.map V.int)) := by
  refine ⟨p, rfl, h, fun x hx => ?_, by rw [List.length_map]; omega⟩
  obtain ⟨m, _, rfl⟩ := List.mem_map.mp hx
  exact ⟨.int, m, rfl⟩
theorem sum_fit : ∀ {ns : List Int}, (∀ m ∈ ns, 1 ≤ m ∧ m ≤ 600) → 0 ≤ ns.sum ∧ ns.sum ≤ 600 * (ns.length : Int)
  | [], _ => ⟨Int.le_refl _, Int.le_refl _⟩
  | n :: ns, h => by
    obtain ⟨a, b⟩ := sum_fit (ns := ns) fun m hm => h m (List.mem_cons_of_mem _ hm)
    obtain ⟨c, d⟩ := h n (List.mem_cons_self ..)
    rw [List.sum_cons, List.length_cons]
    constructor
    · omega
    · push_cast
      omega
def spLoads : Sp := fun vs H Q _ => ∃ (b s : Addr) (N : Nat), vs = [.ref b] ∧ BoxAt H b s N ∧ N ≤ 900000 ∧ ∀ H', BoxAt H' b s (N + 20) → ExtB b H H' → Q (.bl true) H'
theorem ok_loads {f : Addr} {fd : FuncData} (F : Fun K "_law_loads" "_law_loads" s__law_loads f fd) (T : Txt K mg A) (O__law_draw : Own P w K mg base CX0 "_law_draw" 1 pm__law_draw spDraw) (O__law_value : Own P w K mg base CX0 "_law_value" 2 pm__law_value spValue)
    (O__law_load_due : Own P w K mg base CX0 "_law_load_due" 2 pm__law_load_due spLoadDue) (O__law_made : Own P w K mg base CX0 "_law_made" 6 pm__law_made (spMade A))
    (O_Load : OwnC P w K mg base (L2.CX P w) "Load" A.Load 4 pm_Load_init (spLoadInit A)) (O_Load_eq : OwnM P w K mg base CX0 A.Load "__eq__" 1 pm_Load_eq (spLoadEq A)) (O_Load_len : OwnM P w K mg base CX0 A.Load "__len__" 1 pm_Load_len (spLoadLen A)) :
    FnOk P w K mg base CX0 8 f fd pm__law_loads spLoads := by
  refine F.ok sc__law_loads (fun vs H Q E h => ?_) (fun cdv A' outer s H vs Q E hr h => ?_)
  · obtain ⟨_, _, _, rfl, _⟩ := h
    rfl
  · obtain ⟨b, sb, N, rfl, hb, hN, k⟩ := h
    refine ⟨_, pss_cons (ps_setLc (i := 1) (own := [("_law_k", 7)]) (g := gName 7) (by rfl) sc__law_loads.nd rfl rfl (sw_true rfl rfl rfl (by decide +kernel)) (pi_range1 rfl T.n_range (pa_cons (pe_own O__law_draw (hr.mono (by decide)) pass0 (pa_cons (pv 0) (pa_cons (pe_int) pa_nil))) pa_nil)) (blkOk_by (own := [("_law_k", 7)]) (N := nm__law_loads) (sc := defScope s__law_loads) (by decide +kernel)) (fun _ _ _ _ _ => pg_name (i := 7) sc__law_loads.nd rfl (Or.inl rfl)) (fun _ _ _ _ _ => pts_nil) (fun _ _ _ _ _ => pe_own O__law_value (hr.mono (by decide)) pass0 (pa_cons (pv 0) (pa_cons (pe_int) (pa_cons (pe_int) pa_nil)))))
      (Evl.pss_cut (ps_set (i := 2) sc__law_loads.nd rfl (Or.inl rfl) (pe_ix ix_list (pe_lst (pa_cons (pv 1) (pa_cons (pe_callTy call_tuple_of (by rfl) T.n_tuple (by decide +kernel) (pa_cons (pv 1) pa_nil)) (pa_cons (pe_non) pa_nil)))) (pe_ifExp (pt_cmpR op_gt (pe_own O__law_draw (hr.mono (by decide)) pass0 (pa_cons (pv 0) (pa_cons (pe_int) pa_nil))) (pe_int) (nomark _)) (pe_op op_fdiv (pe_own O__law_draw (hr.mono (by decide)) pass0 (pa_cons (pv 0) (pa_cons (pe_int) pa_nil))) (pe_int)) (pe_int)) (fun _ _ => rfl)))
      (pss_cons (ps_set (i := 3) sc__law_loads.nd rfl (Or.inl rfl) (pe_own O__law_value (hr.mono (by decide)) pass0 (pa_cons (pv 0) (pa_cons (pe_int) (pa_cons (pe_int) pa_nil)))))
      (pss_cons (ps_set (i := 4) sc__law_loads.nd rfl (Or.inl rfl) (pe_own O__law_load_due (hr.mono (by decide)) pass0 (pa_cons (pv 2) (pa_cons (pv 3) pa_nil))))
      (pss_cons (ps_set (i := 5) sc__law_loads.nd rfl (Or.inl rfl) (pe_own O__law_made (hr.mono (by decide)) pass0 (pa_cons (pe_str) (pa_cons (pe_lst (pa_cons (pv 2) (pa_cons (pv 3) pa_nil))) pa_nil))))
      (pss_cons (ps_if (pt_cmpR op_notN (pv 4) (pe_non) (nomark _)) (pss_one (ps_ret (pe_cmpR (op_eqD hr.units) (pv 5) (pe_tup (pa_cons (pv 4) (pa_cons (pe_bl) (pa_cons (pe_bl) (pa_cons (pe_bl) pa_nil))))) (nomark _)))) (pss_nil))
      (pss_cons (ps_if (pt_val (pe_callB call_isi (by rfl) T.n_isinstance (by decide +kernel) (pa_cons (pv 5) (pa_cons (pe_bltn (v := .ty "tuple") (by rfl) T.n_tuple (by decide +kernel) rfl) pa_nil)))) (pss_one (ps_ret (pe_bl))) (pss_nil))
      (pss_cons (ps_set (i := 4) sc__law_loads.nd rfl (Or.inl rfl) (pe_callTy call_tuple_of (by rfl) T.n_tuple (by decide +kernel) (pa_cons (pv 1) pa_nil)))
      (pss_cons (ps_set (i := 6) sc__law_loads.nd rfl (Or.inl rfl) (pe_new O_Load (hr.mono (by decide)) passL (pa_cons (pe_callTy call_list_of (by rfl) T.n_list (by decide +kernel) (pa_cons (pv 4) pa_nil)) (pa_cons (pv 3) pa_nil))))
      (pss_cons (ps_expr (pe_bm PySem.F.plainAttrs_list PySem.F.slot_list_append PySem.F.type_list_append mt_append (pv 1) (pa_cons (pe_int) pa_nil)))
      (pss_cons (ps_if (PW.pt (pw_or (pt_cmpR (op_neD hr.units) (pe_fld (pv 5) rfl) (pv 4) (nomark _)) (pw_or (pt_cmpR op_ne (pe_fld (pv 5) rfl) (pv 3) (nomark _)) (pw_or (pt_cmpR op_ne (pe_callB (lenO O_Load_len (hr.mono (by decide)) pass0) (by rfl) T.n_len (by decide +kernel) (pa_cons (pv 5) pa_nil)) (pe_callB (cr_sumT rfl) (by rfl) T.n_sum (by decide +kernel) (pa_cons (pv 4) pa_nil)) (nomark _)) (pw_or (pt_cmpR (neO O_Load_eq T.Load.neM (hr.mono (by decide)) pass0) (pv 5) (pv 6) (nomark _)) (pw_or1 (pt_cmpR (eqO O_Load_eq T.Load.neM (hr.mono (by decide)) pass0) (pv 5) (pv 4) (nomark _)))))))) (pss_one (ps_ret (pe_bl))) (pss_nil))
      (pss_one (ps_ret (pe_and (pe_cmpR (neO O_Load_eq T.Load.neM (hr.mono (by decide)) pass0) (pv 5) (pe_new O_Load (hr.mono (by decide)) passL (pa_cons (pv 4) (pa_cons (pe_op op_add (pe_op op_mod (pe_callTy call_int1 (by rfl) T.n_int (by decide +kernel) (pa_cons (pv 3) pa_nil)) (pe_int)) (pe_int)) pa_nil))) (nomark _)) (pe_one (pe_cmpR (neO O_Load_eq T.Load.neM (hr.mono (by decide)) pass0) (pv 5) (pe_new O_Load (hr.mono (by decide)) passL (pa_cons (pe_op op_catE (pe_slice sl_tupE (pv 4) po_none (po_some (pe_int))) (pe_tup (pa_cons (pe_op op_add (pe_op op_mod (pe_callTy call_int1 (by rfl) T.n_int (by decide +kernel) (pa_cons (pe_ix ix_tup (pv 4) (pe_un un_neg (pe_int)) (fun _ _ => rfl)) pa_nil)) (pe_int)) (pe_int)) pa_nil))) (pa_cons (pv 3) pa_nil))) (nomark _)))))))))))))))), ?_⟩
    refine ⟨_, rfl, b, sb, N, 5, rfl, hb, by omega, by omega, by omega, fun n H1 n0 n5 hb1 but1 => ⟨n, rfl, by omega, by omega, fun l hl => ?_⟩⟩
    obtain ⟨nlb, nls⟩ := hb1.new hl
    refine lc_range (fun i H' => ∃ xs, H' l = some (.lst xs) ∧ xs.length = i ∧ (∀ x ∈ xs, FlatV x) ∧ BoxAt H' b sb (N + 1 + 2 * i) ∧ ExtB b H H') ⟨[], upd_same, rfl, (fun _ h => nomatch h), hb1.ext (Ext.upd hl), but1.ext.trans (Ext.b (Ext.upd hl))⟩ (fun i H2 hi pv => ?_) (fun H2 pv => ?_)
    · obtain ⟨xs, hl2, hlen, hf, hb2, x2⟩ := pv
      refine ⟨rfl, _, rfl, b, sb, _, 1, 600, rfl, hb2, by omega, by omega, by omega, fun v H3 fv hb3 x3 => ⟨xs, x3 _ _ nlb hl2, Nat.lt_trans (show xs.length < 5 by omega) (by decide), xs ++ [v], upd_same, ?_, ?_, ?_, ?_⟩⟩
      · rw [List.length_append, hlen]
        rfl
      · intro x hx
        rcases List.mem_append.mp hx with h | h
        · exact hf x h
        · rw [List.mem_singleton.mp h]
          exact fv
      · exact (hb3.upd nlb nls).le (by omega)
      · refine (x2.trans x3).mut ?_
        cases e : H l with
        | none => rfl
        | some o =>
          have z := but1.ext l o nlb e
          rw [hl] at z
          cases z
    · obtain ⟨xs, hl2, hlen, hf, hb2, x2⟩ := pv
      have hb2 := hb2.le (show N + 1 + 2 * n.toNat ≤ N + 9 by omega)
      have hx4 : xs.length ≤ 4 := by omega
      have kx : ∀ (H' : Hp), ∀ x ∈ xs, ∃ k, KndOf H' x k := fun H' x hx => let ⟨k, hk, _⟩ := (hf x hx).k H'; ⟨k, hk⟩
      refine ⟨fun σ H' => ∃ v r, σ = [some (.ref b), some (.ref l), some v, Option.none, Option.none, Option.none, Option.none, Option.none] ∧ (∀ H2, ExtB b H' H2 → RowsAt H2 v r) ∧ (r = none ∨ r = some xs) ∧ H' l = some (.lst xs) ∧ BoxAt H' b sb (N + 11) ∧ ExtB b H H', ?_, ?_⟩
      · refine ⟨_, rfl, _, rfl, l, xs, rfl, .inl ⟨SqL.of hl2, fun t ht => ⟨by show 3 ≤ sizeLine; decide, fun q hq => ?_⟩⟩⟩
        have e3 := (Ext.upd (o := .tup xs) ht).upd' (o := .lst [.ref l, .ref t, .non]) hq
        have ntb := (hb2.new ht).1
        have nqb := ((hb2.ext (Ext.upd ht)).new hq).1
        have hb3 := hb2.ext e3
        have hq3 : upd (upd H2 t (.tup xs)) q (.lst [.ref l, .ref t, .non]) q = some (.lst [.ref l, .ref t, .non]) := upd_same
        have ht3 : upd (upd H2 t (.tup xs)) q (.lst [.ref l, .ref t, .non]) t = some (.tup xs) := by
          rw [upd_ne (ne_of_none upd_same hq)]
          exact upd_same
        have hl3 := e3 _ _ hl2
        generalize upd (upd H2 t (.tup xs)) q (.lst [.ref l, .ref t, .non]) = H3 at e3 hb3 hq3 ht3 hl3 ⊢
        have x3 := x2.trans (Ext.b e3)
        refine ⟨_, rfl, b, sb, N + 9, 6, rfl, hb3, by omega, by omega, by omega, fun d1 H4 d10 d16 hb4 but4 => ⟨_, _, rfl, rfl, _, rfl, ?_⟩⟩
        by_cases hd1 : d1 > 0
        · rw [decide_eq_true hd1]
          refine iteT ?_
          refine ⟨_, rfl, b, sb, N + 10, 8, rfl, hb4, by omega, by omega, by omega, fun d2 H5 d20 d28 hb5 but5 => ⟨_, _, rfl, rfl, ⟨by decide, by decide⟩, ?_⟩⟩
          have x5 := (but4.ext.trans but5.ext)
          have hq5 := x5 _ _ nqb hq3
          have hl5 := x5 _ _ nlb hl3
          have ht5 := x5 _ _ ntb ht3
          have hi : d2 / 4 = 0 ∨ d2 / 4 = 1 := by omega
          rcases hi with hi | hi
          · exact ⟨q, _, _, .ref l, rfl, rfl, SqL.of hq5, (by rw [hi]; rfl), .ref l, some xs, rfl, fun H6 x6 => ⟨l, rfl, .inl (x6 _ _ nlb hl5), kx H6, by omega⟩, .inr rfl, hl5, hb5, x3.trans x5⟩
          · exact ⟨q, _, _, .ref t, rfl, rfl, SqL.of hq5, (by rw [hi]; rfl), .ref t, some xs, rfl, fun H6 x6 => ⟨t, rfl, .inr (x6 _ _ ntb ht5), kx H6, by omega⟩, .inr rfl, hl5, hb5, x3.trans x5⟩
        · rw [decide_eq_false hd1]
          have x4 := but4.ext
          refine iteF ?_
          refine ⟨q, _, 2, .non, rfl, rfl, SqL.of (x4 _ _ nqb hq3), rfl, .non, none, rfl, fun H6 x6 => ⟨.none, rfl, rfl⟩, .inl rfl, x4 _ _ nlb hl3, hb4.le (by omega), x3.trans x4⟩
      · rintro σ H3 ⟨v, r, rfl, hrow, hrx, hl3, hb3, x3⟩
        refine ⟨_, rfl, b, sb, N + 11, 1, 500, rfl, hb3, by omega, by omega, by omega, fun z H4 fz hb4 x4 => ?_⟩
        have hl4 := x4 _ _ nlb hl3
        have hflr : ∀ ys, r = some ys → ∀ x ∈ ys, FlatV x := fun ys hy => by
          rcases hrx with h | h
          · rw [h] at hy; cases hy
          · rw [h] at hy; cases hy; exact hf
        refine ⟨_, rfl, _, rfl, v, z, r, rfl, hrow H4 x4, hflr, fz, fun H5 e5 => ?_⟩
        have x5 := x4.trans (Ext.b e5)
        refine ⟨_, rfl, _, rfl, by show 2 ≤ sizeLine; decide, fun o ho => ?_⟩
        have e6 := e5.upd' (o := .lst [v, z]) ho
        have x6 := x4.trans (Ext.b e6)
        refine .inr ⟨o, v, z, r, rfl, upd_same, hrow _ x6, fz, ?_, ?_⟩
        · -- refused
          intro st hdue p H7 hp e7 ht
          rw [hdue]
          refine ⟨_, rfl, rfl, _, rfl, ?_⟩
          refine iteT ?_
          refine ⟨_, rfl, _, rfl, by show 4 ≤ sizeLine; decide, fun p2 hp2 => ?_⟩
          have tf := told_fl (dueL_lay hdue)
          have ht2 : upd H7 p2 (.tup (told st)) p = some (.tup (told st)) := by
            rw [upd_ne (ne_of_none ht hp2)]
            exact ht
          refine ⟨_, _, .tup (SqT.of ht2) (dp_all tf), .tup (SqT.of upd_same) (dp_all (vs := told st) tf), shp_tup tf, shp_tup (vs := told st) tf, ?_⟩
          show Q (.bl (PyData.eqvAll ((told st).map pd) ((told st).map pd))) _
          rw [eqv_same tf]
          have e8 := (e6.trans e7).upd' (o := .tup (told st)) hp2
          exact k _ ((hb4.ext e8).le (by omega)) ((x3.trans x4).trans (Ext.b e8))
        · -- made
          intro hno ys p H7 hry hp e7 hload
          rw [hno]
          have hrs : r = some xs := by
            rcases hrx with h | h
            · rw [h] at hry; cases hry
            · exact h
          rw [hrs] at hry
          cases hry
          rw [hrs] at hno
          obtain ⟨ns, n, rfl, rfl, ns1, ns3, hns, n1, n500⟩ := dueL_none hno
          obtain ⟨dx, rr, hp7, hrr7⟩ := hload
          refine ⟨_, rfl, rfl, _, rfl, iteF ?_⟩
          refine ⟨_, rfl, _, .ty "tuple", .ref A.Load, .type "tuple", false, rfl, .ty _, T.Load.tyOf hp7, T.Load.kTup, _, rfl, iteF ?_⟩
          have hl7 := (e6.trans e7) _ _ hl4
          refine ⟨_, rfl, l, _, rfl, .inl ⟨SqL.of hl7, fun d hd => ?_⟩⟩
          refine ⟨_, rfl, d, _, rfl, .inr (SqT.of upd_same), fun m hm => ?_⟩
          have hd9 : upd (upd H7 d (.tup (ns.map V.int))) m (.lst (ns.map V.int)) d = some (.tup (ns.map V.int)) := by
            rw [upd_ne (ne_of_none upd_same hm)]
            exact upd_same
          have e9 := (Ext.upd (o := .tup (ns.map V.int)) hd).upd' (o := .lst (ns.map V.int)) hm
          have hm9 : upd (upd H7 d (.tup (ns.map V.int))) m (.lst (ns.map V.int)) m = some (.lst (ns.map V.int)) := upd_same
          generalize upd (upd H7 d (.tup (ns.map V.int))) m (.lst (ns.map V.int)) = H9 at hd9 e9 hm9 ⊢
          refine ⟨_, rfl, fun x dn hx hdn hne => ?_⟩
          have e0 := (Ext.upd (o := .own x) hdn).upd' (o := .ins A.Load dn []) (by rw [upd_ne hne.symm]; exact hx)
          refine ⟨x, dn, .ref m, .int n, some (ns.map V.int), rfl, upd_same, rowsI (.inl (e0 _ _ hm9)) ns3, ⟨.int, n, rfl⟩, fun s' hs' => (by rw [hno] at hs'; cases hs'), fun _ us Hn hus hHn hBn => ⟨rfl, ?_⟩⟩
          cases hus
          obtain ⟨rx, hxn, hrxn⟩ := hHn
          have en : Ext H9 Hn := fun a o' h => hBn a o' (ne_of_none h hx) (e0 a o' h)
          have e79 := e9.trans en
          have hpn := e79 _ _ hp7
          have hrrn := e79 _ _ hrr7
          have hdn' := en _ _ hd9
          have hln := e79 _ _ hl7
          -- the rows change, the loads do not
          refine ⟨_, rfl, .inl ⟨rfl, _, SqL.of hln⟩, l, _, .int 5, rfl, rfl, hln, Nat.lt_trans (show (ns.map V.int).length < 5 by omega) (by decide), ?_⟩
          have nl : ∀ {a : Addr} {o : HO}, Hn a = some o → (∀ us, o ≠ .lst us) → a ≠ l := fun {a o} h hno z => by
            rw [z, hln] at h
            cases h
            exact hno _ rfl
          have mv : ∀ {a : Addr} {o : HO}, Hn a = some o → (∀ us, o ≠ .lst us) → upd Hn l (.lst (ns.map V.int ++ [.int 5])) a = some o := fun {a o} h hno => by
            rw [upd_ne (nl h hno)]
            exact h
          have hpm := mv hpn fun us z => nomatch z
          have hrm := mv hrrn fun us z => nomatch z
          have hdm := mv hdn' fun us z => nomatch z
          have hxm := mv hxn fun us z => nomatch z
          have hrxm := mv hrxn fun us z => nomatch z
          have hbm : BoxAt (upd Hn l (.lst (ns.map V.int ++ [.int 5]))) b sb (N + 13) := (((hb4.ext e6).ext e7).ext e79).upd nlb nls
          have xm : ExtB b H (upd Hn l (.lst (ns.map V.int ++ [.int 5]))) := by
            refine (((x3.trans x4).trans (Ext.b (e6.trans e7))).trans (Ext.b e79)).mut ?_
            cases e : H l with
            | none => rfl
            | some o =>
              have z := but1.ext l o nlb e
              rw [hl] at z
              cases z
          generalize upd Hn l (.lst (ns.map V.int ++ [.int 5])) = Hm at hpm hrm hdm hxm hrxm hbm xm ⊢
          have ff : ∀ v ∈ ns.map V.int, Fl v := fl_ints
          obtain ⟨sm0, sm1⟩ := sum_fit hns
          refine ⟨_, rfl, p, A.Load, dx, _, _, rfl, hpm, T.Load.cl, T.l_rows, rfl, _, rfl, _, _, .tup (SqT.of hrm) (dp_all ff), .tup (SqT.of hdm) (dp_all ff), shp_tup ff, shp_tup ff, _, rfl, ?_⟩
          show if (!PyData.eqvAll ((ns.map V.int).map pd) ((ns.map V.int).map pd)) = true then _ else _
          rw [eqv_same ff]
          refine iteF ?_
          refine ⟨_, rfl, p, A.Load, dx, _, _, rfl, hpm, T.Load.cl, T.l_quiet, rfl, _, rfl, rfl, _, rfl, ?_⟩
          rw [dvi, decide_eq_true rfl]
          refine iteF ?_
          refine ⟨_, rfl, p, dx, _, rfl, hpm, p, ns, .int n, rfl, ⟨dx, rr, hpm, hrm⟩, sm0, by omega, fun H10 e10 => ⟨ns.sum, rfl, ⟨sm0, by omega⟩, ?_⟩⟩
          have hp10 := e10 _ _ hpm
          have hr10 := e10 _ _ hrm
          have hd10 := e10 _ _ hdm
          have hx10 := e10 _ _ hxm
          have hrx10 := e10 _ _ hrxm
          refine ⟨_, rfl, d, ns, rfl, SqT.of hd10, rfl, _, rfl, ?_⟩
          rw [dvi, decide_eq_true rfl]
          refine iteF ?_
          refine ⟨_, rfl, _, rfl, p, dx, _, .ref A.Load, rfl, hp10, T.Load.tyOf hx10, T.Load.nfMe, p, ns, n, _, rfl, ⟨dx, rr, hp10, hr10⟩, .inl ⟨x, ns, n, rfl, ⟨dn, rx, hx10, hrx10⟩, _, rfl, _, rfl, ?_⟩⟩
          rw [decide_eq_true ⟨rfl, rfl⟩]
          refine iteF ?_
          refine ⟨_, rfl, _, rfl, p, dx, _, .type Knd.tuple.name, rfl, hp10, knd_ty (k := .tuple) ⟨d, _, rfl, hd10⟩, T.Load.nfK .tuple, p, ns, n, _, rfl, ⟨dx, rr, hp10, hr10⟩, .inr ⟨.tuple, ⟨d, _, rfl, hd10⟩, _, rfl, _, rfl, ?_⟩⟩
          refine iteF ?_
          -- another quiet
          refine ⟨_, rfl, _, rfl, _, rfl, .inl ⟨n, rfl, _, _, rfl, rfl, (by show (0 : Int) < 500; decide), _, _, rfl, rfl, fun x2 dx2 hx2 hdx2 hne2 => ?_⟩⟩
          have e02 := (Ext.upd (o := .own x2) hdx2).upd' (o := .ins A.Load dx2 []) (by rw [upd_ne hne2.symm]; exact hx2)
          have q0 : 1 ≤ n % 500 + 1 ∧ n % 500 + 1 ≤ 500 := by omega
          refine ⟨x2, dx2, .ref d, .int (n % 500 + 1), some (ns.map V.int), rfl, upd_same, rowsI (.inr (e02 _ _ hd10)) ns3, ⟨.int, _, rfl⟩, fun s' hs' => (by rw [dueL_ok ns1 ns3 hns q0] at hs'; cases hs'), fun _ us H11 hus h11 hB11 => ⟨rfl, ?_⟩⟩
          cases hus
          obtain ⟨rx2, hx11, hrx11⟩ := h11
          have e11 : Ext H10 H11 := fun a o' h => hB11 a o' (ne_of_none h hx2) (e02 a o' h)
          have hp11 := e11 _ _ hp10
          have hr11 := e11 _ _ hr10
          have hd11 := e11 _ _ hd10
          refine ⟨p, dx, _, .ref A.Load, rfl, hp11, T.Load.tyOf hx11, T.Load.nfMe, p, ns, n, _, rfl, ⟨dx, rr, hp11, hr11⟩, .inl ⟨x2, ns, n % 500 + 1, rfl, ⟨dx2, rx2, hx11, hrx11⟩, _, rfl, _, rfl, ?_⟩⟩
          rw [decide_eq_false (by omega)]
          refine iteT ?_
          -- other rows
          refine ⟨_, rfl, _, rfl, 2, rfl, d, _, rfl, hd11, fun c H12 e12 hc12 => ?_⟩
          have hcut : cutV (ns.map V.int) Option.none (some 2) = (ns.take 2).map V.int := by
            have e2 : HT.sIx (ns.map V.int).length (ns.map V.int).length (some 2) = min 2 (ns.map V.int).length := HT.sIx_nat _ _ 2
            unfold cutV
            rw [HT.sIx_none, e2, List.drop_zero, Nat.sub_zero, List.map_take, ← List.take_take, List.take_length]
          rw [hcut] at hc12
          obtain ⟨ini, las, hil⟩ : ∃ ini las, ns = ini ++ [las] := by
            rcases List.eq_nil_or_concat ns with h | ⟨i, l, h⟩
            · rw [h] at ns1
              exact absurd ns1 (by decide)
            · exact ⟨i, l, by rw [h, List.concat_eq_append]⟩
          have hlas : 1 ≤ las ∧ las ≤ 600 := hns las (by rw [hil]; simp)
          have hat : atI (ns.map V.int) (-1) = some (.int las) := by
            rw [hil, List.map_append]
            exact atI_last _ _
          have hd12 := e12 _ _ hd11
          refine ⟨_, rfl, _, rfl, d, _, -1, .int las, rfl, rfl, SqT.of hd12, hat, .inl ⟨las, rfl, _, _, rfl, rfl, (by show (0 : Int) < 600; decide), _, _, rfl, rfl, by show 1 ≤ sizeLine; decide, fun u hu => ?_⟩⟩
          have hc13 : upd H12 u (.tup [.int (las % 600 + 1)]) c = some (.tup ((ns.take 2).map V.int)) := by
            rw [upd_ne (ne_of_none hc12 hu)]
            exact hc12
          refine ⟨c, u, _, _, rfl, rfl, hc13, upd_same, ?_, fun g H14 e14 hg14 => ?_⟩
          · rw [List.length_map, List.length_take]
            refine Nat.le_trans (Nat.add_le_add (Nat.min_le_left _ _) (Nat.le_refl _)) (by show 2 + 1 ≤ sizeLine; decide)
          have e13 := e12.upd' (o := .tup [.int (las % 600 + 1)]) hu
          have e1114 := e13.trans e14
          rw [show (ns.take 2).map V.int ++ [V.int (las % 600 + 1)] = (ns.take 2 ++ [las % 600 + 1]).map V.int by rw [List.map_append]; rfl] at hg14
          have ms1 : 1 ≤ (ns.take 2 ++ [las % 600 + 1]).length := by simp
          have ms3 : (ns.take 2 ++ [las % 600 + 1]).length ≤ 3 := by
            rw [List.length_append, List.length_take]
            show min 2 ns.length + 1 ≤ 3
            omega
          have hms : ∀ m ∈ ns.take 2 ++ [las % 600 + 1], 1 ≤ m ∧ m ≤ 600 := by
            intro m hm
            rcases List.mem_append.mp hm with h | h
            · exact hns m (List.mem_of_mem_take h)
            · rw [List.mem_singleton.mp h]
              omega
          have hne' : ns ≠ ns.take 2 ++ [las % 600 + 1] := by
            intro h
            have hlen' := congrArg List.length h
            rw [List.length_append, List.length_take] at hlen'
            have h3 : ns.length = 3 := by
              have : ns.length = min 2 ns.length + 1 := hlen'
              omega
            have h' : ini ++ [las] = ns.take 2 ++ [las % 600 + 1] := by rw [← hil]; exact h
            have h2 := List.append_inj_right' h' rfl
            injection h2 with h2
            omega
          refine ⟨_, rfl, fun x3 dx3 hx3 hdx3 hne3 => ?_⟩
          have e03 := (Ext.upd (o := .own x3) hdx3).upd' (o := .ins A.Load dx3 []) (by rw [upd_ne hne3.symm]; exact hx3)
          refine ⟨x3, dx3, .ref g, .int n, some ((ns.take 2 ++ [las % 600 + 1]).map V.int), rfl, upd_same, rowsI (.inr (e03 _ _ hg14)) ms3, ⟨.int, _, rfl⟩, fun s' hs' => (by rw [dueL_ok ms1 ms3 hms ⟨n1, n500⟩] at hs'; cases hs'), fun _ us H15 hus h15 hB15 => ⟨rfl, ?_⟩⟩
          cases hus
          obtain ⟨rx3, hx15, hrx15⟩ := h15
          have e15 : Ext H14 H15 := fun a o' h => hB15 a o' (ne_of_none h hx3) (e03 a o' h)
          have e1015 := e11.trans (e1114.trans e15)
          refine ⟨p, dx, _, .ref A.Load, rfl, e1015 _ _ hp10, T.Load.tyOf hx15, T.Load.nfMe, p, ns, n, _, rfl, ⟨dx, rr, e1015 _ _ hp10, e1015 _ _ hr10⟩, .inl ⟨x3, _, n, rfl, ⟨dx3, rx3, hx15, hrx15⟩, _, rfl, ?_⟩⟩
          rw [decide_eq_false (fun h => hne' h.1)]
          have ef := e10.trans e1015
          exact k _ ((hbm.ext ef).le (by omega)) (xm.trans (Ext.b ef))
end
end K22

set_option Elab.async false
set_option maxRecDepth 100000
set_option maxHeartbeats 4000000
namespace K22
open PySem PySem.Spec PyProof.Rows L2
section
variable {P : Program} {w : World} {K : PySem.W.Frag} {mg : Str → Option Value} {base : Heap} {A : Ad}
def spLaw (K : PySem.W.Frag) : Sp := fun vs H Q _ => ∃ (a : Addr) (ns : List Int), vs = [.ref a] ∧ SqL K H a (ns.map V.int) ∧ ns.length ≤ 63 ∧ ∀ H', Q (.bl true) H'
theorem ok_law {f : Addr} {fd : FuncData} (F : Fun K "law" "law" s_law f fd) (T : Txt K mg A) (O__law_box : Own P w K mg base CX0 "_law_box" 1 pm__law_box (spBox K)) (O__law_turns : Own P w K mg base CX0 "_law_turns" 8 pm__law_turns spTurns)
    (O__law_loads : Own P w K mg base CX0 "_law_loads" 8 pm__law_loads spLoads) : FnOk P w K mg base CX0 9 f fd pm_law (spLaw K) := by
  refine F.ok sc_law (fun vs H Q E h => ?_) (fun cdv A' outer s H vs Q E hr h => ?_)
  · obtain ⟨_, _, rfl, _⟩ := h
    rfl
  · obtain ⟨a, ns, rfl, hS, hlen, k⟩ := h
    refine ⟨_, pss_cons (ps_set (i := 1) sc_law.nd rfl (Or.inr rfl) (pe_own O__law_box (hr.mono (by decide)) pass0 (pa_cons (pv 0) pa_nil)))
      (pss_one (ps_ret (pe_callB (cr_all rfl) (by rfl) T.n_all (by decide +kernel) (pa_cons (pe_lc (own := [("_law_k", 2)]) (g := gName 2) (by rfl) sc_law.nd (pi_range1 rfl T.n_range (pa_cons (pe_int) pa_nil)) (blkOk_by (own := [("_law_k", 2)]) (N := nm_law) (sc := defScope s_law) (by decide +kernel)) (fun _ _ _ _ _ => pg_name (i := 2) sc_law.nd rfl (Or.inl rfl)) (fun _ _ _ _ _ => pts_nil) (fun _ _ _ _ _ => pe_and (pe_own O__law_turns (hr.mono (by decide)) pass0 (pa_cons (pv 1) pa_nil)) (pe_one (pe_own O__law_loads (hr.mono (by decide)) pass0 (pa_cons (pv 1) pa_nil))))) pa_nil)))), ?_⟩
    refine ⟨_, rfl, a, ns, rfl, hS, hlen, fun b sb H1 hbn e1 hb => ?_⟩
    refine ⟨6, rfl, by decide, by decide, fun D hD => ?_⟩
    obtain ⟨nDb, nDs⟩ := hb.new hD
    refine lc_range (fun i H' => H' D = some (.lst ((List.replicate i true).map V.bl)) ∧ BoxAt H' b sb (40 * i)) ⟨upd_same, (hb.ext (Ext.upd hD)).le (Nat.zero_le _)⟩ (fun i H2 hi pv => ?_) (fun H2 pv => ?_)
    · obtain ⟨hl2, hb2⟩ := pv
      have hi6 : i < 6 := hi
      refine ⟨rfl, _, rfl, b, sb, 40 * i, rfl, hb2, by omega, fun H3 hb3 x3 => ?_⟩
      refine ⟨_, rfl, ?_⟩
      refine iteT ?_
      refine ⟨_, rfl, b, sb, _, rfl, hb3, by omega, fun H4 hb4 x4 => ⟨_, x4 _ _ nDb (x3 _ _ nDb hl2), ?_, ?_, ?_⟩⟩
      · rw [List.length_map, List.length_replicate]
        exact Nat.lt_trans hi6 (by decide)
      · rw [upd_same, List.replicate_succ', List.map_append]
        rfl
      · exact (hb4.upd nDb nDs).le (by omega)
    · obtain ⟨hl2, hb2⟩ := pv
      refine ⟨D, List.replicate 6 true, rfl, SqL.of hl2, ?_⟩
      exact k _
end
end K22

set_option Elab.async false
set_option maxRecDepth 100000
set_option maxHeartbeats 4000000
namespace K22
open PySem PySem.Spec PyProof.Rows L2
section
variable {P : Program} {w : World} {K : PySem.W.Frag} {mg : Str → Option Value} {base : Heap} {A : Ad}
theorem kit_ref {B C : Addr} {b : Bool} (i : PySem.W.isClsIn K C = true) (t : PySem.W.typeIn K (.ref C) = some (.type "type")) (s : PySem.W.subIn K (.ref B) (.ref C) = some b) (ss : PySem.W.subIn K (.ref B) (.ref B) = some true) : PySem.W.kitOne K (.ref B) (.ref C) = some b := by
  by_cases h : B = C
  · subst h
    rw [ss] at s
    cases s
    exact if_pos (beq_self_eq_true _)
  · have e : ((PySem.W.clsIn K C).isSome && PySem.W.typeIn K (.ref C) == some (.type "type")) = true := by
      have h1 : (PySem.W.clsIn K C).isSome = true := i
      rw [h1, t]
      rfl
    show (if (Value.ref B == Value.ref C) = true then some true else if ((PySem.W.clsIn K C).isSome && PySem.W.typeIn K (.ref C) == some (.type "type")) = true then PySem.W.subIn K (.ref B) (.ref C) else none) = some b
    rw [if_pos e]
    have hne : ¬ ((Value.ref B == Value.ref C) = true) := fun z => by
      have z' := eq_of_beq z
      injection z' with z'
      exact h z'
    rw [if_neg hne]
    exact s
theorem exm_me {B : Addr} (b : PySem.W.subIn K (.ref B) (.type "BaseException") = some true) (i : PySem.W.isClsIn K B = true) (t : PySem.W.typeIn K (.ref B) = some (.type "type")) (ss : PySem.W.subIn K (.ref B) (.ref B) = some true) : PySem.W.exmOne K (.ref B) (.ref B) = some true := by
  unfold PySem.W.exmOne PySem.W.kitCls
  have i' : (PySem.W.clsIn K B).isSome = true := i
  rw [b]
  dsimp only
  rw [i', t, ss]
  rfl
theorem ve_one {W : Addr} : PySem.HandSPX.refsVE [.ref W, .type "ValueError", .type "Exception", .type "BaseException", .type "object"] = true := by
  show PySem.HandSPX.refsVE [.type "ValueError", .type "Exception", .type "BaseException", .type "object"] = true
  decide +kernel
theorem law_ok (T : Txt K mg A) (D_is_integer : DefAt K mg "is_integer" s_is_integer pm_is_integer) (D_is_between : DefAt K mg "is_between" s_is_between pm_is_between) (D_is_list : DefAt K mg "is_list" s_is_list pm_is_list) (D_is_list_of : DefAt K mg "is_list_of" s_is_list_of pm_is_list_of) (D_are_rows : DefAt K mg "are_rows" s_are_rows pm_are_rows) (D__law_box : DefAt K mg "_law_box" s__law_box pm__law_box) (D__law_draw : DefAt K mg "_law_draw" s__law_draw pm__law_draw) (D__law_value : DefAt K mg "_law_value" s__law_value pm__law_value) (D__law_fits : DefAt K mg "_law_fits" s__law_fits pm__law_fits) (D__law_turn_due : DefAt K mg "_law_turn_due" s__law_turn_due pm__law_turn_due) (D__law_load_due : DefAt K mg "_law_load_due" s__law_load_due pm__law_load_due) (D__law_made : DefAt K mg "_law_made" s__law_made pm__law_made) (D__law_turns : DefAt K mg "_law_turns" s__law_turns pm__law_turns) (D__law_loads : DefAt K mg "_law_loads" s__law_loads pm__law_loads)
    (M_Turn_init : MethAt K A.Turn "__init__" "Turn.__init__" s_Turn_init pm_Turn_init) (M_Turn_eq : MethAt K A.Turn "__eq__" "Turn.__eq__" s_Turn_eq pm_Turn_eq) (M_Load_init : MethAt K A.Load "__init__" "Load.__init__" s_Load_init pm_Load_init) (M_Load_len : MethAt K A.Load "__len__" "Load.__len__" s_Load_len pm_Load_len) (M_Load_eq : MethAt K A.Load "__eq__" "Load.__eq__" s_Load_eq pm_Load_eq)
    (m1_Turn : PySem.W.makesIn K A.Turn = true) (m2_Turn : PySem.W.keepIn K (.ref A.Turn) = true) (m1_Load : PySem.W.makesIn K A.Load = true) (m2_Load : PySem.W.keepIn K (.ref A.Load) = true) {f : Addr} {fd : FuncData} (F : Fun K "law" "law" s_law f fd) : FnOk P w K mg base CX0 9 f fd pm_law (spLaw K) := by
  have X : XCls P w K mg base "BadPart" "part" A.BadPart := xBadPart T
  have O1 : Own P w K mg base CX0 "is_integer" 1 pm_is_integer spInteger := D_is_integer.own fun f fd F => ok_integer F T
  have O2 : Own P w K mg base CX0 "is_between" 2 pm_is_between spBetween := D_is_between.own fun f fd F => ok_between F O1
  have O3 : Own P w K mg base CX0 "is_list" 1 pm_is_list spIsList := D_is_list.own fun f fd F => ok_isList F T
  have O4 : Own P w K mg base CX0 "is_list_of" 2 pm_is_list_of spListOf := D_is_list_of.own fun f fd F => ok_listOf F T O3
  have OA : Own P w K mg base CX0 "are_rows" 3 pm_are_rows spAreRows := D_are_rows.own fun f fd F => ok_areRows F T O2 O4
  have OT : OwnC P w K mg base (L2.CX P w) "Turn" A.Turn 4 pm_Turn_init (spTurnInit A) := M_Turn_init.cls (fun f fd F => ok_turnInit F T O2 X) m1_Turn m2_Turn T.Turn.gC
  have OTe : OwnM P w K mg base CX0 A.Turn "__eq__" 1 pm_Turn_eq (spTurnEq A) := M_Turn_eq.own fun f fd F => ok_turnEq F T
  have OL : OwnC P w K mg base (L2.CX P w) "Load" A.Load 4 pm_Load_init (spLoadInit A) := M_Load_init.cls (fun f fd F => ok_loadInit F T O2 OA X) m1_Load m2_Load T.Load.gC
  have OLl : OwnM P w K mg base CX0 A.Load "__len__" 1 pm_Load_len (spLoadLen A) := M_Load_len.own fun f fd F => ok_loadLen F T
  have OLe : OwnM P w K mg base CX0 A.Load "__eq__" 1 pm_Load_eq (spLoadEq A) := M_Load_eq.own fun f fd F => ok_loadEq F T
  have O5 : Own P w K mg base CX0 "_law_box" 1 pm__law_box (spBox K) := D__law_box.own fun f fd F => ok_box F T
  have O6 : Own P w K mg base CX0 "_law_draw" 1 pm__law_draw spDraw := D__law_draw.own fun f fd F => ok_draw F T
  have O7 : Own P w K mg base CX0 "_law_value" 2 pm__law_value spValue := D__law_value.own fun f fd F => ok_value F O6
  have O8 : Own P w K mg base CX0 "_law_fits" 1 pm__law_fits spFits := D__law_fits.own fun f fd F => ok_fits F T
  have O9 : Own P w K mg base CX0 "_law_turn_due" 2 pm__law_turn_due (spTurnDue K) := D__law_turn_due.own fun f fd F => ok_turnDue F O8
  have O10 : Own P w K mg base CX0 "_law_load_due" 2 pm__law_load_due spLoadDue := D__law_load_due.own fun f fd F => ok_loadDue F T O8
  have O11 : Own P w K mg base CX0 "_law_made" 6 pm__law_made (spMade A) := D__law_made.own fun f fd F => ok_made F T OT OL
  have O12 : Own P w K mg base CX0 "_law_turns" 8 pm__law_turns spTurns := D__law_turns.own fun f fd F => ok_turns F T O7 O8 O9 O11 O6 OT OTe
  have O13 : Own P w K mg base CX0 "_law_loads" 8 pm__law_loads spLoads := D__law_loads.own fun f fd F => ok_loads F T O6 O7 O10 O11 OL OLe OLl
  exact ok_law F T O5 O12 O13
end
theorem all_mk {P : Program} {w : World} {K : PySem.W.Frag} {h : Heap} {mg : Str → Option Value} {fa ABadPart AWholeError ABadIndex ATurn ALoad f_is_integer f_is_between f_is_list f_is_list_of f_are_rows f__law_box f__law_draw f__law_value f__law_fits f__law_turn_due f__law_load_due f__law_made f__law_turns f__law_loads f_law f_BadPart_init f_Turn_init f_Turn_eq f_Load_init f_Load_len f_Load_eq : Addr} (X : K.In h) (G : h.Ns mainGlobals mg) (hfa : mg "law" = some (.ref fa))
    {od_is_integer an_is_integer od_is_between an_is_between od_is_list an_is_list od_is_list_of an_is_list_of od_are_rows an_are_rows od__law_box an__law_box od__law_draw an__law_draw od__law_value an__law_value od__law_fits an__law_fits od__law_turn_due an__law_turn_due od__law_load_due an__law_load_due od__law_made an__law_made od__law_turns an__law_turns od__law_loads an__law_loads od_law an_law od_BadPart_init an_BadPart_init od_Turn_init an_Turn_init od_Turn_eq an_Turn_eq od_Load_init an_Load_init od_Load_len an_Load_len od_Load_eq an_Load_eq : Option Addr} {sl_is_integer sl_is_between sl_is_list sl_is_list_of sl_are_rows sl__law_box sl__law_draw sl__law_value sl__law_fits sl__law_turn_due sl__law_load_due sl__law_made sl__law_turns sl__law_loads sl_law sl_BadPart_init sl_Turn_init sl_Turn_eq sl_Load_init sl_Load_len sl_Load_eq : Array (Option Value)} {oc_is_integer kV_is_integer dc_is_integer pm_is_integer_ cd_is_integer ct_is_integer oc_is_between kV_is_between dc_is_between pm_is_between_ cd_is_between ct_is_between oc_is_list kV_is_list dc_is_list pm_is_list_ cd_is_list ct_is_list oc_is_list_of kV_is_list_of dc_is_list_of pm_is_list_of_ cd_is_list_of ct_is_list_of oc_are_rows kV_are_rows dc_are_rows pm_are_rows_ cd_are_rows ct_are_rows oc__law_box kV__law_box dc__law_box pm__law_box_ cd__law_box ct__law_box oc__law_draw kV__law_draw dc__law_draw pm__law_draw_ cd__law_draw ct__law_draw oc__law_value kV__law_value dc__law_value pm__law_value_ cd__law_value ct__law_value oc__law_fits kV__law_fits dc__law_fits pm__law_fits_ cd__law_fits ct__law_fits oc__law_turn_due kV__law_turn_due dc__law_turn_due pm__law_turn_due_ cd__law_turn_due ct__law_turn_due oc__law_load_due kV__law_load_due dc__law_load_due pm__law_load_due_ cd__law_load_due ct__law_load_due oc__law_made kV__law_made dc__law_made pm__law_made_ cd__law_made ct__law_made oc__law_turns kV__law_turns dc__law_turns pm__law_turns_ cd__law_turns ct__law_turns oc__law_loads kV__law_loads dc__law_loads pm__law_loads_ cd__law_loads ct__law_loads oc_law kV_law dc_law pm_law_ cd_law ct_law oc_BadPart_init kV_BadPart_init dc_BadPart_init pm_BadPart_init_ cd_BadPart_init ct_BadPart_init oc_Turn_init kV_Turn_init dc_Turn_init pm_Turn_init_ cd_Turn_init ct_Turn_init oc_Turn_eq kV_Turn_eq dc_Turn_eq pm_Turn_eq_ cd_Turn_eq ct_Turn_eq oc_Load_init kV_Load_init dc_Load_init pm_Load_init_ cd_Load_init ct_Load_init oc_Load_len kV_Load_len dc_Load_len pm_Load_len_ cd_Load_len ct_Load_len oc_Load_eq kV_Load_eq dc_Load_eq pm_Load_eq_ cd_Load_eq ct_Load_eq : Value} {t_MOST_DELAY t_MOST_TURN t_MOST_NUMBERS t_MOST_ROWS t_MOST_PARCELS t_MOST_QUIET : Tok}
    {xnm xq : Str} {xN : Addr} {xbs : List Value} {xsn : List Str} {xsub : List Value} {xab : Bool} {xcol : Option Bool} {xdd : Option Addr} {xm0 xm1 xm2 xm3 xm5 : Option Value}
    (g_BadPart : PySem.W.nsIn K mainGlobals "BadPart" = some (some (.ref ABadPart)))
    (g_WholeError : PySem.W.nsIn K mainGlobals "WholeError" = some (some (.ref AWholeError)))
    (g_BadIndex : PySem.W.nsIn K mainGlobals "BadIndex" = some (some (.ref ABadIndex)))
    (g_Turn : PySem.W.nsIn K mainGlobals "Turn" = some (some (.ref ATurn)))
    (g_Load : PySem.W.nsIn K mainGlobals "Load" = some (some (.ref ALoad)))
    (a_is_integer : PySem.W.nsIn K mainGlobals "is_integer" = some (some (.ref f_is_integer)))
    (l_is_integer : K.lookup f_is_integer = some ⟨oc_is_integer, od_is_integer, .func (PySem.W.fnOf "is_integer" "is_integer" (defArgs s_is_integer) (defBody s_is_integer) (defScope s_is_integer) .none kV_is_integer dc_is_integer pm_is_integer_ an_is_integer cd_is_integer ct_is_integer), sl_is_integer⟩)
    (c_is_integer : PySem.W.codeIn K cd_is_integer "is_integer" = true)
    (k_is_integer : PySem.W.keepIn K (.ref f_is_integer) = true)
    (a_is_between : PySem.W.nsIn K mainGlobals "is_between" = some (some (.ref f_is_between)))
    (l_is_between : K.lookup f_is_between = some ⟨oc_is_between, od_is_between, .func (PySem.W.fnOf "is_between" "is_between" (defArgs s_is_between) (defBody s_is_between) (defScope s_is_between) .none kV_is_between dc_is_between pm_is_between_ an_is_between cd_is_between ct_is_between), sl_is_between⟩)
    (c_is_between : PySem.W.codeIn K cd_is_between "is_between" = true)
    (k_is_between : PySem.W.keepIn K (.ref f_is_between) = true)
    (a_is_list : PySem.W.nsIn K mainGlobals "is_list" = some (some (.ref f_is_list)))
    (l_is_list : K.lookup f_is_list = some ⟨oc_is_list, od_is_list, .func (PySem.W.fnOf "is_list" "is_list" (defArgs s_is_list) (defBody s_is_list) (defScope s_is_list) .none kV_is_list dc_is_list pm_is_list_ an_is_list cd_is_list ct_is_list), sl_is_list⟩)
    (c_is_list : PySem.W.codeIn K cd_is_list "is_list" = true)
    (k_is_list : PySem.W.keepIn K (.ref f_is_list) = true)
    (a_is_list_of : PySem.W.nsIn K mainGlobals "is_list_of" = some (some (.ref f_is_list_of)))
    (l_is_list_of : K.lookup f_is_list_of = some ⟨oc_is_list_of, od_is_list_of, .func (PySem.W.fnOf "is_list_of" "is_list_of" (defArgs s_is_list_of) (defBody s_is_list_of) (defScope s_is_list_of) .none kV_is_list_of dc_is_list_of pm_is_list_of_ an_is_list_of cd_is_list_of ct_is_list_of), sl_is_list_of⟩)
    (c_is_list_of : PySem.W.codeIn K cd_is_list_of "is_list_of" = true)
    (k_is_list_of : PySem.W.keepIn K (.ref f_is_list_of) = true)
    (a_are_rows : PySem.W.nsIn K mainGlobals "are_rows" = some (some (.ref f_are_rows)))
    (l_are_rows : K.lookup f_are_rows = some ⟨oc_are_rows, od_are_rows, .func (PySem.W.fnOf "are_rows" "are_rows" (defArgs s_are_rows) (defBody s_are_rows) (defScope s_are_rows) .none kV_are_rows dc_are_rows pm_are_rows_ an_are_rows cd_are_rows ct_are_rows), sl_are_rows⟩)
    (c_are_rows : PySem.W.codeIn K cd_are_rows "are_rows" = true)
    (k_are_rows : PySem.W.keepIn K (.ref f_are_rows) = true)
    (a__law_box : PySem.W.nsIn K mainGlobals "_law_box" = some (some (.ref f__law_box)))
    (l__law_box : K.lookup f__law_box = some ⟨oc__law_box, od__law_box, .func (PySem.W.fnOf "_law_box" "_law_box" (defArgs s__law_box) (defBody s__law_box) (defScope s__law_box) .none kV__law_box dc__law_box pm__law_box_ an__law_box cd__law_box ct__law_box), sl__law_box⟩)
    (c__law_box : PySem.W.codeIn K cd__law_box "_law_box" = true)
    (k__law_box : PySem.W.keepIn K (.ref f__law_box) = true)
    (a__law_draw : PySem.W.nsIn K mainGlobals "_law_draw" = some (some (.ref f__law_draw)))
    (l__law_draw : K.lookup f__law_draw = some ⟨oc__law_draw, od__law_draw, .func (PySem.W.fnOf "_law_draw" "_law_draw" (defArgs s__law_draw) (defBody s__law_draw) (defScope s__law_draw) .none kV__law_draw dc__law_draw pm__law_draw_ an__law_draw cd__law_draw ct__law_draw), sl__law_draw⟩)
    (c__law_draw : PySem.W.codeIn K cd__law_draw "_law_draw" = true)
    (k__law_draw : PySem.W.keepIn K (.ref f__law_draw) = true)
    (a__law_value : PySem.W.nsIn K mainGlobals "_law_value" = some (some (.ref f__law_value)))
    (l__law_value : K.lookup f__law_value = some ⟨oc__law_value, od__law_value, .func (PySem.W.fnOf "_law_value" "_law_value" (defArgs s__law_value) (defBody s__law_value) (defScope s__law_value) .none kV__law_value dc__law_value pm__law_value_ an__law_value cd__law_value ct__law_value), sl__law_value⟩)
    (c__law_value : PySem.W.codeIn K cd__law_value "_law_value" = true)
    (k__law_value : PySem.W.keepIn K (.ref f__law_value) = true)
    (a__law_fits : PySem.W.nsIn K mainGlobals "_law_fits" = some (some (.ref f__law_fits)))
    (l__law_fits : K.lookup f__law_fits = some ⟨oc__law_fits, od__law_fits, .func (PySem.W.fnOf "_law_fits" "_law_fits" (defArgs s__law_fits) (defBody s__law_fits) (defScope s__law_fits) .none kV__law_fits dc__law_fits pm__law_fits_ an__law_fits cd__law_fits ct__law_fits), sl__law_fits⟩)
    (c__law_fits : PySem.W.codeIn K cd__law_fits "_law_fits" = true)
    (k__law_fits : PySem.W.keepIn K (.ref f__law_fits) = true)
    (a__law_turn_due : PySem.W.nsIn K mainGlobals "_law_turn_due" = some (some (.ref f__law_turn_due)))
    (l__law_turn_due : K.lookup f__law_turn_due = some ⟨oc__law_turn_due, od__law_turn_due, .func (PySem.W.fnOf "_law_turn_due" "_law_turn_due" (defArgs s__law_turn_due) (defBody s__law_turn_due) (defScope s__law_turn_due) .none kV__law_turn_due dc__law_turn_due pm__law_turn_due_ an__law_turn_due cd__law_turn_due ct__law_turn_due), sl__law_turn_due⟩)
    (c__law_turn_due : PySem.W.codeIn K cd__law_turn_due "_law_turn_due" = true)
    (k__law_turn_due : PySem.W.keepIn K (.ref f__law_turn_due) = true)
    (a__law_load_due : PySem.W.nsIn K mainGlobals "_law_load_due" = some (some (.ref f__law_load_due)))
    (l__law_load_due : K.lookup f__law_load_due = some ⟨oc__law_load_due, od__law_load_due, .func (PySem.W.fnOf "_law_load_due" "_law_load_due" (defArgs s__law_load_due) (defBody s__law_load_due) (defScope s__law_load_due) .none kV__law_load_due dc__law_load_due pm__law_load_due_ an__law_load_due cd__law_load_due ct__law_load_due), sl__law_load_due⟩)
    (c__law_load_due : PySem.W.codeIn K cd__law_load_due "_law_load_due" = true)
    (k__law_load_due : PySem.W.keepIn K (.ref f__law_load_due) = true)
    (a__law_made : PySem.W.nsIn K mainGlobals "_law_made" = some (some (.ref f__law_made)))
    (l__law_made : K.lookup f__law_made = some ⟨oc__law_made, od__law_made, .func (PySem.W.fnOf "_law_made" "_law_made" (defArgs s__law_made) (defBody s__law_made) (defScope s__law_made) .none kV__law_made dc__law_made pm__law_made_ an__law_made cd__law_made ct__law_made), sl__law_made⟩)
    (c__law_made : PySem.W.codeIn K cd__law_made "_law_made" = true)
    (k__law_made : PySem.W.keepIn K (.ref f__law_made) = true)
    (a__law_turns : PySem.W.nsIn K mainGlobals "_law_turns" = some (some (.ref f__law_turns)))
    (l__law_turns : K.lookup f__law_turns = some ⟨oc__law_turns, od__law_turns, .func (PySem.W.fnOf "_law_turns" "_law_turns" (defArgs s__law_turns) (defBody s__law_turns) (defScope s__law_turns) .none kV__law_turns dc__law_turns pm__law_turns_ an__law_turns cd__law_turns ct__law_turns), sl__law_turns⟩)
    (c__law_turns : PySem.W.codeIn K cd__law_turns "_law_turns" = true)
    (k__law_turns : PySem.W.keepIn K (.ref f__law_turns) = true)
    (a__law_loads : PySem.W.nsIn K mainGlobals "_law_loads" = some (some (.ref f__law_loads)))
    (l__law_loads : K.lookup f__law_loads = some ⟨oc__law_loads, od__law_loads, .func (PySem.W.fnOf "_law_loads" "_law_loads" (defArgs s__law_loads) (defBody s__law_loads) (defScope s__law_loads) .none kV__law_loads dc__law_loads pm__law_loads_ an__law_loads cd__law_loads ct__law_loads), sl__law_loads⟩)
    (c__law_loads : PySem.W.codeIn K cd__law_loads "_law_loads" = true)
    (k__law_loads : PySem.W.keepIn K (.ref f__law_loads) = true)
    (a_law : PySem.W.nsIn K mainGlobals "law" = some (some (.ref f_law)))
    (l_law : K.lookup f_law = some ⟨oc_law, od_law, .func (PySem.W.fnOf "law" "law" (defArgs s_law) (defBody s_law) (defScope s_law) .none kV_law dc_law pm_law_ an_law cd_law ct_law), sl_law⟩)
    (c_law : PySem.W.codeIn K cd_law "law" = true)
    (k_law : PySem.W.keepIn K (.ref f_law) = true)
    (a_BadPart_init : PySem.W.findIn K (.ref ABadPart) "__init__" = some (some (.ref f_BadPart_init)))
    (i_BadPart_init : PySem.W.typeIn K (.ref f_BadPart_init) = some (.type "function"))
    (l_BadPart_init : K.lookup f_BadPart_init = some ⟨oc_BadPart_init, od_BadPart_init, .func (PySem.W.fnOf "__init__" "BadPart.__init__" (defArgs s_BadPart_init) (defBody s_BadPart_init) (defScope s_BadPart_init) .none kV_BadPart_init dc_BadPart_init pm_BadPart_init_ an_BadPart_init cd_BadPart_init ct_BadPart_init), sl_BadPart_init⟩)
    (c_BadPart_init : PySem.W.codeIn K cd_BadPart_init "BadPart.__init__" = true)
    (k_BadPart_init : PySem.W.keepIn K (.ref f_BadPart_init) = true)
    (a_Turn_init : PySem.W.findIn K (.ref ATurn) "__init__" = some (some (.ref f_Turn_init)))
    (i_Turn_init : PySem.W.isFn K (.ref f_Turn_init) = true)
    (l_Turn_init : K.lookup f_Turn_init = some ⟨oc_Turn_init, od_Turn_init, .func (PySem.W.fnOf "__init__" "Turn.__init__" (defArgs s_Turn_init) (defBody s_Turn_init) (defScope s_Turn_init) .none kV_Turn_init dc_Turn_init pm_Turn_init_ an_Turn_init cd_Turn_init ct_Turn_init), sl_Turn_init⟩)
    (c_Turn_init : PySem.W.codeIn K cd_Turn_init "Turn.__init__" = true)
    (k_Turn_init : PySem.W.keepIn K (.ref f_Turn_init) = true)
    (a_Turn_eq : PySem.W.findIn K (.ref ATurn) "__eq__" = some (some (.ref f_Turn_eq)))
    (i_Turn_eq : PySem.W.isFn K (.ref f_Turn_eq) = true)
    (l_Turn_eq : K.lookup f_Turn_eq = some ⟨oc_Turn_eq, od_Turn_eq, .func (PySem.W.fnOf "__eq__" "Turn.__eq__" (defArgs s_Turn_eq) (defBody s_Turn_eq) (defScope s_Turn_eq) .none kV_Turn_eq dc_Turn_eq pm_Turn_eq_ an_Turn_eq cd_Turn_eq ct_Turn_eq), sl_Turn_eq⟩)
    (c_Turn_eq : PySem.W.codeIn K cd_Turn_eq "Turn.__eq__" = true)
    (k_Turn_eq : PySem.W.keepIn K (.ref f_Turn_eq) = true)
    (a_Load_init : PySem.W.findIn K (.ref ALoad) "__init__" = some (some (.ref f_Load_init)))
    (i_Load_init : PySem.W.isFn K (.ref f_Load_init) = true)
    (l_Load_init : K.lookup f_Load_init = some ⟨oc_Load_init, od_Load_init, .func (PySem.W.fnOf "__init__" "Load.__init__" (defArgs s_Load_init) (defBody s_Load_init) (defScope s_Load_init) .none kV_Load_init dc_Load_init pm_Load_init_ an_Load_init cd_Load_init ct_Load_init), sl_Load_init⟩)
    (c_Load_init : PySem.W.codeIn K cd_Load_init "Load.__init__" = true)
    (k_Load_init : PySem.W.keepIn K (.ref f_Load_init) = true)
    (a_Load_len : PySem.W.findIn K (.ref ALoad) "__len__" = some (some (.ref f_Load_len)))
    (i_Load_len : PySem.W.isFn K (.ref f_Load_len) = true)
    (l_Load_len : K.lookup f_Load_len = some ⟨oc_Load_len, od_Load_len, .func (PySem.W.fnOf "__len__" "Load.__len__" (defArgs s_Load_len) (defBody s_Load_len) (defScope s_Load_len) .none kV_Load_len dc_Load_len pm_Load_len_ an_Load_len cd_Load_len ct_Load_len), sl_Load_len⟩)
    (c_Load_len : PySem.W.codeIn K cd_Load_len "Load.__len__" = true)
    (k_Load_len : PySem.W.keepIn K (.ref f_Load_len) = true)
    (a_Load_eq : PySem.W.findIn K (.ref ALoad) "__eq__" = some (some (.ref f_Load_eq)))
    (i_Load_eq : PySem.W.isFn K (.ref f_Load_eq) = true)
    (l_Load_eq : K.lookup f_Load_eq = some ⟨oc_Load_eq, od_Load_eq, .func (PySem.W.fnOf "__eq__" "Load.__eq__" (defArgs s_Load_eq) (defBody s_Load_eq) (defScope s_Load_eq) .none kV_Load_eq dc_Load_eq pm_Load_eq_ an_Load_eq cd_Load_eq ct_Load_eq), sl_Load_eq⟩)
    (c_Load_eq : PySem.W.codeIn K cd_Load_eq "Load.__eq__" = true)
    (k_Load_eq : PySem.W.keepIn K (.ref f_Load_eq) = true)
    (n_isinstance : PySem.W.nsIn K mainGlobals "isinstance" = some none)
    (n_int : PySem.W.nsIn K mainGlobals "int" = some none)
    (n_bool : PySem.W.nsIn K mainGlobals "bool" = some none)
    (n_list : PySem.W.nsIn K mainGlobals "list" = some none)
    (n_tuple : PySem.W.nsIn K mainGlobals "tuple" = some none)
    (n_len : PySem.W.nsIn K mainGlobals "len" = some none)
    (n_all : PySem.W.nsIn K mainGlobals "all" = some none)
    (n_range : PySem.W.nsIn K mainGlobals "range" = some none)
    (n_sum : PySem.W.nsIn K mainGlobals "sum" = some none)
    (n_abs : PySem.W.nsIn K mainGlobals "abs" = some none)
    (n_ValueError : PySem.W.nsIn K mainGlobals "ValueError" = some none)
    (v_MOST_DELAY : PySem.W.nsIn K mainGlobals "MOST_DELAY" = some (some (.int 50 t_MOST_DELAY)))
    (v_MOST_TURN : PySem.W.nsIn K mainGlobals "MOST_TURN" = some (some (.int 200 t_MOST_TURN)))
    (v_MOST_NUMBERS : PySem.W.nsIn K mainGlobals "MOST_NUMBERS" = some (some (.int 8 t_MOST_NUMBERS)))
    (v_MOST_ROWS : PySem.W.nsIn K mainGlobals "MOST_ROWS" = some (some (.int 3 t_MOST_ROWS)))
    (v_MOST_PARCELS : PySem.W.nsIn K mainGlobals "MOST_PARCELS" = some (some (.int 600 t_MOST_PARCELS)))
    (v_MOST_QUIET : PySem.W.nsIn K mainGlobals "MOST_QUIET" = some (some (.int 500 t_MOST_QUIET)))
    (s_hn : PySem.W.specialIn K (.builtin "object.__class__") "__get__" = some (some (.builtin "getset_descriptor.__get__")))
    (s_tk : PySem.W.takesIn K (.builtin "object.__class__") = some true)
    (pg_Turn : PySem.W.plainGet K ATurn Str.empty = true)
    (hd_Turn : PySem.W.hasDictIn K ATurn = true)
    (po_Turn : PySem.W.plainOver K ATurn = true)
    (sa_Turn : PySem.W.findIn K (.ref ATurn) "__setattr__" = some (some (.builtin "object.__setattr__")))
    (ha_Turn : PySem.W.findIn K (.ref ATurn) "__class__" = some (some (.builtin "object.__class__")))
    (hm_Turn : PySem.W.mroIn K ATurn (.type "object") = some true)
    (ne_Turn : PySem.W.findIn K (.ref ATurn) "__ne__" = some (some (.builtin "object.__ne__")))
    (is_Turn : PySem.W.isClsIn K ATurn = true)
    (ty_Turn : PySem.W.typeIn K (.ref ATurn) = some (.type "type"))
    (tup_Turn : PySem.W.subIn K (.ref ATurn) (.type "tuple") = some false)
    (lst_Turn : PySem.W.subIn K (.ref ATurn) (.type "list") = some false)
    (int_Turn : PySem.W.subIn K (.ref ATurn) (.type "int") = some false)
    (str_Turn : PySem.W.subIn K (.ref ATurn) (.type "str") = some false)
    (mk_Turn : PySem.W.makesIn K ATurn = true)
    (kc_Turn : PySem.W.keepIn K (.ref ATurn) = true)
    (pg_Load : PySem.W.plainGet K ALoad Str.empty = true)
    (hd_Load : PySem.W.hasDictIn K ALoad = true)
    (po_Load : PySem.W.plainOver K ALoad = true)
    (sa_Load : PySem.W.findIn K (.ref ALoad) "__setattr__" = some (some (.builtin "object.__setattr__")))
    (ha_Load : PySem.W.findIn K (.ref ALoad) "__class__" = some (some (.builtin "object.__class__")))
    (hm_Load : PySem.W.mroIn K ALoad (.type "object") = some true)
    (ne_Load : PySem.W.findIn K (.ref ALoad) "__ne__" = some (some (.builtin "object.__ne__")))
    (is_Load : PySem.W.isClsIn K ALoad = true)
    (ty_Load : PySem.W.typeIn K (.ref ALoad) = some (.type "type"))
    (tup_Load : PySem.W.subIn K (.ref ALoad) (.type "tuple") = some false)
    (lst_Load : PySem.W.subIn K (.ref ALoad) (.type "list") = some false)
    (int_Load : PySem.W.subIn K (.ref ALoad) (.type "int") = some false)
    (str_Load : PySem.W.subIn K (.ref ALoad) (.type "str") = some false)
    (mk_Load : PySem.W.makesIn K ALoad = true)
    (kc_Load : PySem.W.keepIn K (.ref ALoad) = true)
    (na_least : PySem.W.findIn K (.ref ATurn) "least" = some none)
    (na_most : PySem.W.findIn K (.ref ATurn) "most" = some none)
    (na_turn : PySem.W.findIn K (.ref ATurn) "turn" = some none)
    (na_numbers : PySem.W.findIn K (.ref ATurn) "numbers" = some none)
    (na_rows : PySem.W.findIn K (.ref ALoad) "rows" = some none)
    (na_quiet : PySem.W.findIn K (.ref ALoad) "quiet" = some none)
    (x_L : K.lookup ABadPart = some (excClassObj xnm xq ABadPart xN xbs [.ref AWholeError, .type "ValueError", .type "Exception", .type "BaseException", .type "object"] true xsn xsub xab xcol xdd xm0 xm1 xm2 xm3 xm5 "ValueError.__new__"))
    (x_sa : PySem.W.findIn K (.ref ABadPart) "__setattr__" = some (some (.builtin "object.__setattr__")))
    (x_ex : PySem.W.subIn K (.ref ABadPart) (.type "BaseException") = some true)
    (x_ty : PySem.W.typeIn K (.ref ABadPart) = some (.type "type"))
    (x_kC : PySem.W.keepIn K (.ref ABadPart) = true)
    (x_noA : PySem.W.findIn K (.ref ABadPart) "part" = some none)
    (x_hg : PySem.W.findIn K (.ref ABadPart) "__getattribute__" = some (some (.builtin "BaseException.__getattribute__")))
    (x_hk : PySem.W.findIn K (.ref ABadPart) "__getattr__" = some none)
    (x_hd : PySem.W.hasDictIn K ABadPart = true)
    (x_ha : PySem.W.findIn K (.ref ABadPart) "__class__" = some (some (.builtin "object.__class__")))
    (x_hm : PySem.W.mroIn K ABadPart (.type "object") = some true)
    (x_is : PySem.W.isClsIn K ABadPart = true)
    (x_ss : PySem.W.subIn K (.ref ABadPart) (.ref ABadPart) = some true)
    (x_w : PySem.W.subIn K (.ref ABadPart) (.ref AWholeError) = some true)
    (x_wi : PySem.W.isClsIn K AWholeError = true)
    (x_wt : PySem.W.typeIn K (.ref AWholeError) = some (.type "type"))
    (x_i : PySem.W.subIn K (.ref ABadPart) (.ref ABadIndex) = some false)
    (x_ii : PySem.W.isClsIn K ABadIndex = true)
    (x_it : PySem.W.typeIn K (.ref ABadIndex) = some (.type "type"))
    (x_v : PySem.W.subIn K (.ref ABadPart) (.type "ValueError") = some true)
    : ∃ fd : FuncData, (∀ (s : Shared) (v : Value), BindsTo s fd ⟨[v], []⟩ [("_law_script", v)]) ∧ ∀ base : Heap, K.In base → base.Ns mainGlobals mg → FnOk P w K mg base CX0 9 fa fd ["_law_script"] (spLaw K) := by
  have e := hfa.symm.trans (PySem.W.mg_of X G a_law)
  cases e
  have F_is_integer := fun_mk (st := s_is_integer) l_is_integer c_is_integer k_is_integer
  have D_is_integer : DefAt K mg "is_integer" s_is_integer pm_is_integer := ⟨_, _, F_is_integer, PySem.W.mg_of X G a_is_integer, F_is_integer.binds (ps := pm_is_integer) fun _ _ _ _ _ _ us hl => match us, hl with | [_], _ => rfl⟩
  have F_is_between := fun_mk (st := s_is_between) l_is_between c_is_between k_is_between
  have D_is_between : DefAt K mg "is_between" s_is_between pm_is_between := ⟨_, _, F_is_between, PySem.W.mg_of X G a_is_between, F_is_between.binds (ps := pm_is_between) fun _ _ _ _ _ _ us hl => match us, hl with | [_, _, _], _ => rfl⟩
  have F_is_list := fun_mk (st := s_is_list) l_is_list c_is_list k_is_list
  have D_is_list : DefAt K mg "is_list" s_is_list pm_is_list := ⟨_, _, F_is_list, PySem.W.mg_of X G a_is_list, F_is_list.binds (ps := pm_is_list) fun _ _ _ _ _ _ us hl => match us, hl with | [_], _ => rfl⟩
  have F_is_list_of := fun_mk (st := s_is_list_of) l_is_list_of c_is_list_of k_is_list_of
  have D_is_list_of : DefAt K mg "is_list_of" s_is_list_of pm_is_list_of := ⟨_, _, F_is_list_of, PySem.W.mg_of X G a_is_list_of, F_is_list_of.binds (ps := pm_is_list_of) fun _ _ _ _ _ _ us hl => match us, hl with | [_, _, _], _ => rfl⟩
  have F_are_rows := fun_mk (st := s_are_rows) l_are_rows c_are_rows k_are_rows
  have D_are_rows : DefAt K mg "are_rows" s_are_rows pm_are_rows := ⟨_, _, F_are_rows, PySem.W.mg_of X G a_are_rows, F_are_rows.binds (ps := pm_are_rows) fun _ _ _ _ _ _ us hl => match us, hl with | [_], _ => rfl⟩
  have F__law_box := fun_mk (st := s__law_box) l__law_box c__law_box k__law_box
  have D__law_box : DefAt K mg "_law_box" s__law_box pm__law_box := ⟨_, _, F__law_box, PySem.W.mg_of X G a__law_box, F__law_box.binds (ps := pm__law_box) fun _ _ _ _ _ _ us hl => match us, hl with | [_], _ => rfl⟩
  have F__law_draw := fun_mk (st := s__law_draw) l__law_draw c__law_draw k__law_draw
  have D__law_draw : DefAt K mg "_law_draw" s__law_draw pm__law_draw := ⟨_, _, F__law_draw, PySem.W.mg_of X G a__law_draw, F__law_draw.binds (ps := pm__law_draw) fun _ _ _ _ _ _ us hl => match us, hl with | [_, _], _ => rfl⟩
  have F__law_value := fun_mk (st := s__law_value) l__law_value c__law_value k__law_value
  have D__law_value : DefAt K mg "_law_value" s__law_value pm__law_value := ⟨_, _, F__law_value, PySem.W.mg_of X G a__law_value, F__law_value.binds (ps := pm__law_value) fun _ _ _ _ _ _ us hl => match us, hl with | [_, _, _], _ => rfl⟩
  have F__law_fits := fun_mk (st := s__law_fits) l__law_fits c__law_fits k__law_fits
  have D__law_fits : DefAt K mg "_law_fits" s__law_fits pm__law_fits := ⟨_, _, F__law_fits, PySem.W.mg_of X G a__law_fits, F__law_fits.binds (ps := pm__law_fits) fun _ _ _ _ _ _ us hl => match us, hl with | [_, _, _], _ => rfl⟩
  have F__law_turn_due := fun_mk (st := s__law_turn_due) l__law_turn_due c__law_turn_due k__law_turn_due
  have D__law_turn_due : DefAt K mg "_law_turn_due" s__law_turn_due pm__law_turn_due := ⟨_, _, F__law_turn_due, PySem.W.mg_of X G a__law_turn_due, F__law_turn_due.binds (ps := pm__law_turn_due) fun _ _ _ _ _ _ us hl => match us, hl with | [_], _ => rfl⟩
  have F__law_load_due := fun_mk (st := s__law_load_due) l__law_load_due c__law_load_due k__law_load_due
  have D__law_load_due : DefAt K mg "_law_load_due" s__law_load_due pm__law_load_due := ⟨_, _, F__law_load_due, PySem.W.mg_of X G a__law_load_due, F__law_load_due.binds (ps := pm__law_load_due) fun _ _ _ _ _ _ us hl => match us, hl with | [_, _], _ => rfl⟩
  have F__law_made := fun_mk (st := s__law_made) l__law_made c__law_made k__law_made
  have D__law_made : DefAt K mg "_law_made" s__law_made pm__law_made := ⟨_, _, F__law_made, PySem.W.mg_of X G a__law_made, F__law_made.binds (ps := pm__law_made) fun _ _ _ _ _ _ us hl => match us, hl with | [_, _], _ => rfl⟩
  have F__law_turns := fun_mk (st := s__law_turns) l__law_turns c__law_turns k__law_turns
  have D__law_turns : DefAt K mg "_law_turns" s__law_turns pm__law_turns := ⟨_, _, F__law_turns, PySem.W.mg_of X G a__law_turns, F__law_turns.binds (ps := pm__law_turns) fun _ _ _ _ _ _ us hl => match us, hl with | [_], _ => rfl⟩
  have F__law_loads := fun_mk (st := s__law_loads) l__law_loads c__law_loads k__law_loads
  have D__law_loads : DefAt K mg "_law_loads" s__law_loads pm__law_loads := ⟨_, _, F__law_loads, PySem.W.mg_of X G a__law_loads, F__law_loads.binds (ps := pm__law_loads) fun _ _ _ _ _ _ us hl => match us, hl with | [_], _ => rfl⟩
  have F_BadPart_init := fun_mk (st := s_BadPart_init) l_BadPart_init c_BadPart_init k_BadPart_init
  have F_Turn_init := fun_mk (st := s_Turn_init) l_Turn_init c_Turn_init k_Turn_init
  have M_Turn_init : MethAt K ATurn "__init__" "Turn.__init__" s_Turn_init pm_Turn_init := ⟨_, _, F_Turn_init, a_Turn_init, i_Turn_init, F_Turn_init.binds (ps := pm_Turn_init) fun _ _ _ _ _ _ us hl => match us, hl with | [_, _, _, _, _], _ => rfl⟩
  have F_Turn_eq := fun_mk (st := s_Turn_eq) l_Turn_eq c_Turn_eq k_Turn_eq
  have M_Turn_eq : MethAt K ATurn "__eq__" "Turn.__eq__" s_Turn_eq pm_Turn_eq := ⟨_, _, F_Turn_eq, a_Turn_eq, i_Turn_eq, F_Turn_eq.binds (ps := pm_Turn_eq) fun _ _ _ _ _ _ us hl => match us, hl with | [_, _], _ => rfl⟩
  have F_Load_init := fun_mk (st := s_Load_init) l_Load_init c_Load_init k_Load_init
  have M_Load_init : MethAt K ALoad "__init__" "Load.__init__" s_Load_init pm_Load_init := ⟨_, _, F_Load_init, a_Load_init, i_Load_init, F_Load_init.binds (ps := pm_Load_init) fun _ _ _ _ _ _ us hl => match us, hl with | [_, _, _], _ => rfl⟩
  have F_Load_len := fun_mk (st := s_Load_len) l_Load_len c_Load_len k_Load_len
  have M_Load_len : MethAt K ALoad "__len__" "Load.__len__" s_Load_len pm_Load_len := ⟨_, _, F_Load_len, a_Load_len, i_Load_len, F_Load_len.binds (ps := pm_Load_len) fun _ _ _ _ _ _ us hl => match us, hl with | [_], _ => rfl⟩
  have F_Load_eq := fun_mk (st := s_Load_eq) l_Load_eq c_Load_eq k_Load_eq
  have M_Load_eq : MethAt K ALoad "__eq__" "Load.__eq__" s_Load_eq pm_Load_eq := ⟨_, _, F_Load_eq, a_Load_eq, i_Load_eq, F_Load_eq.binds (ps := pm_Load_eq) fun _ _ _ _ _ _ us hl => match us, hl with | [_, _], _ => rfl⟩
  have T : Txt K mg ⟨ABadPart, AWholeError, ABadIndex, ATurn, ALoad⟩ :=
    { n_isinstance := PySem.W.mg_none_of X G n_isinstance, n_int := PySem.W.mg_none_of X G n_int, n_bool := PySem.W.mg_none_of X G n_bool, n_list := PySem.W.mg_none_of X G n_list, n_tuple := PySem.W.mg_none_of X G n_tuple, n_len := PySem.W.mg_none_of X G n_len, n_all := PySem.W.mg_none_of X G n_all, n_range := PySem.W.mg_none_of X G n_range, n_sum := PySem.W.mg_none_of X G n_sum, n_abs := PySem.W.mg_none_of X G n_abs, n_ValueError := PySem.W.mg_none_of X G n_ValueError,
      g_MOST_DELAY := ⟨_, PySem.W.mg_of X G v_MOST_DELAY⟩, g_MOST_TURN := ⟨_, PySem.W.mg_of X G v_MOST_TURN⟩, g_MOST_NUMBERS := ⟨_, PySem.W.mg_of X G v_MOST_NUMBERS⟩, g_MOST_ROWS := ⟨_, PySem.W.mg_of X G v_MOST_ROWS⟩, g_MOST_PARCELS := ⟨_, PySem.W.mg_of X G v_MOST_PARCELS⟩, g_MOST_QUIET := ⟨_, PySem.W.mg_of X G v_MOST_QUIET⟩,
      Turn := ⟨PySem.W.mg_of X G g_Turn, ⟨pg_Turn, hd_Turn, po_Turn, sa_Turn⟩, ha_Turn, s_hn, s_tk, hm_Turn, ne_Turn, is_Turn, ty_Turn, tup_Turn, lst_Turn, int_Turn, str_Turn⟩, Load := ⟨PySem.W.mg_of X G g_Load, ⟨pg_Load, hd_Load, po_Load, sa_Load⟩, ha_Load, s_hn, s_tk, hm_Load, ne_Load, is_Load, ty_Load, tup_Load, lst_Load, int_Load, str_Load⟩, t_least := na_least, t_most := na_most, t_turn := na_turn, t_numbers := na_numbers, l_rows := na_rows, l_quiet := na_quiet,
      BadPart := ⟨⟨⟨_, _, _, _, _, _, _, _, _, _, _, _, _, _, _, x_L, ve_one⟩, x_sa, x_ex, x_ty, x_kC⟩, PySem.W.mg_of X G g_BadPart, x_noA, ⟨x_hg, x_hk, x_ex, x_hd, x_ha, s_hn, s_tk, x_hm⟩, _, a_BadPart_init, i_BadPart_init, _, F_BadPart_init, F_BadPart_init.binds (ps := ["self", "part"]) fun _ _ _ _ _ _ us hl => match us, hl with | [_, _], _ => rfl⟩,
      g_WholeError := PySem.W.mg_of X G g_WholeError, g_BadIndex := PySem.W.mg_of X G g_BadIndex, x_whole := kit_ref x_wi x_wt x_w x_ss, x_value := kit_meta x_v (by decide +kernel), x_index := kit_ref x_ii x_it x_i x_ss, x_te := exm_me x_ex x_is x_ty x_ss }
  exact ⟨PySem.W.fnOf "law" "law" (defArgs s_law) (defBody s_law) (defScope s_law) .none kV_law dc_law pm_law_ an_law cd_law ct_law, fun s v => .of_eq rfl, fun base _ _ =>
    law_ok T D_is_integer D_is_between D_is_list D_is_list_of D_are_rows D__law_box D__law_draw D__law_value D__law_fits D__law_turn_due D__law_load_due D__law_made D__law_turns D__law_loads M_Turn_init M_Turn_eq M_Load_init M_Load_len M_Load_eq mk_Turn kc_Turn mk_Load kc_Load (fun_mk (st := s_law) l_law c_law k_law)⟩
theorem walk {l : PySem.W.OpenLaw} {q : Program} {loose : List Str} {XP : (Str → Option Value) → Heap → Prop} {YP : World → Heap → Prop} {d : DefRec} {K : Params → PySem.W.Frag} (hn : l.most = some 63) (hdf : d.params.defaults = [])
    (hY : ∀ (w : World) (h : Heap), YP w h → (K w.params).In h)
    (F : ∀ (w : World) (mg : Str → Option Value) (fa : Addr) (h : Heap), (K w.params).In h → h.Ns mainGlobals mg → mg d.name = some (.ref fa) →
      ∃ fd : FuncData, (∀ (s : Shared) (u : Value), BindsTo s fd ⟨[u], []⟩ [("_law_script", u)]) ∧ ∀ base : Heap, (K w.params).In base → base.Ns mainGlobals mg → FnOk l.prog w (K w.params) mg base CX0 9 fa fd ["_law_script"] (spLaw (K w.params))) :
    PySem.W.WalkO q loose XP YP l.row.toRowW d [] (fun f vs => PySem.call f vs) :=
  L2.walk_of (n := 63) (k := 9) (x := "_law_script") (CX := fun _ => CX0) (sp := fun w => spLaw (K w.params)) hn (by decide) hdf ⟨rfl, by decide, by decide⟩ hY F (fun _ _ a ns hl _ hS => ⟨a, ns, rfl, hS, hl, fun _ => rfl⟩) fun _ _ _ _ _ z => z
end K22

open PySem PySem.W PyProof.Rows in
set_option maxRecDepth 100000 in
set_option maxHeartbeats 0 in
theorem PySem.Challenge.cw_wholeline_k22_turns_and_loads_built_holds : PySem.Challenge.rw_wholeline_k22_turns_and_loads_built.Holds := by
  w_on; o_law; k_head; (case hw => w_witness2)
  k_fill
  refine K22.walk (l := PySem.Challenge.rw_wholeline_k22_turns_and_loads_built) rfl rfl (fun w h Y => PySem.W.kIn_of Y) ?F
  case F =>
    intro w mg fa h KX G hmg
    refine' K22.all_mk KX G hmg ?q_g_BadPart ?q_g_WholeError ?q_g_BadIndex ?q_g_Turn ?q_g_Load ?q_a_is_integer ?q_l_is_integer ?q_c_is_integer ?q_k_is_integer ?q_a_is_between ?q_l_is_between ?q_c_is_between ?q_k_is_between ?q_a_is_list ?q_l_is_list ?q_c_is_list ?q_k_is_list ?q_a_is_list_of ?q_l_is_list_of ?q_c_is_list_of ?q_k_is_list_of ?q_a_are_rows ?q_l_are_rows ?q_c_are_rows ?q_k_are_rows ?q_a__law_box ?q_l__law_box ?q_c__law_box ?q_k__law_box ?q_a__law_draw ?q_l__law_draw ?q_c__law_draw ?q_k__law_draw ?q_a__law_value ?q_l__law_value ?q_c__law_value ?q_k__law_value ?q_a__law_fits ?q_l__law_fits ?q_c__law_fits ?q_k__law_fits ?q_a__law_turn_due ?q_l__law_turn_due ?q_c__law_turn_due ?q_k__law_turn_due ?q_a__law_load_due ?q_l__law_load_due ?q_c__law_load_due ?q_k__law_load_due ?q_a__law_made ?q_l__law_made ?q_c__law_made ?q_k__law_made ?q_a__law_turns ?q_l__law_turns ?q_c__law_turns ?q_k__law_turns ?q_a__law_loads ?q_l__law_loads ?q_c__law_loads ?q_k__law_loads ?q_a_law ?q_l_law ?q_c_law ?q_k_law ?q_a_BadPart_init ?q_i_BadPart_init ?q_l_BadPart_init ?q_c_BadPart_init ?q_k_BadPart_init ?q_a_Turn_init ?q_i_Turn_init ?q_l_Turn_init ?q_c_Turn_init ?q_k_Turn_init ?q_a_Turn_eq ?q_i_Turn_eq ?q_l_Turn_eq ?q_c_Turn_eq ?q_k_Turn_eq ?q_a_Load_init ?q_i_Load_init ?q_l_Load_init ?q_c_Load_init ?q_k_Load_init ?q_a_Load_len ?q_i_Load_len ?q_l_Load_len ?q_c_Load_len ?q_k_Load_len ?q_a_Load_eq ?q_i_Load_eq ?q_l_Load_eq ?q_c_Load_eq ?q_k_Load_eq ?q_n_isinstance ?q_n_int ?q_n_bool ?q_n_list ?q_n_tuple ?q_n_len ?q_n_all ?q_n_range ?q_n_sum ?q_n_abs ?q_n_ValueError ?q_v_MOST_DELAY ?q_v_MOST_TURN ?q_v_MOST_NUMBERS ?q_v_MOST_ROWS ?q_v_MOST_PARCELS ?q_v_MOST_QUIET ?q_s_hn ?q_s_tk ?q_pg_Turn ?q_hd_Turn ?q_po_Turn ?q_sa_Turn ?q_ha_Turn ?q_hm_Turn ?q_ne_Turn ?q_is_Turn ?q_ty_Turn ?q_tup_Turn ?q_lst_Turn ?q_int_Turn ?q_str_Turn ?q_mk_Turn ?q_kc_Turn ?q_pg_Load ?q_hd_Load ?q_po_Load ?q_sa_Load ?q_ha_Load ?q_hm_Load ?q_ne_Load ?q_is_Load ?q_ty_Load ?q_tup_Load ?q_lst_Load ?q_int_Load ?q_str_Load ?q_mk_Load ?q_kc_Load ?q_na_least ?q_na_most ?q_na_turn ?q_na_numbers ?q_na_rows ?q_na_quiet ?q_x_L ?q_x_sa ?q_x_ex ?q_x_ty ?q_x_kC ?q_x_noA ?q_x_hg ?q_x_hk ?q_x_hd ?q_x_ha ?q_x_hm ?q_x_is ?q_x_ss ?q_x_w ?q_x_wi ?q_x_wt ?q_x_i ?q_x_ii ?q_x_it ?q_x_v
    (case q_g_BadPart => k_is)
    (case q_g_WholeError => k_is)
    (case q_g_BadIndex => k_is)
    (case q_g_Turn => k_is)
    (case q_g_Load => k_is)
    (case q_a_is_integer => k_is)
    (case q_l_is_integer => k_is)
    (case q_c_is_integer => k_is)
    (case q_k_is_integer => k_is)
    (case q_a_is_between => k_is)
    (case q_l_is_between => k_is)
    (case q_c_is_between => k_is)
    (case q_k_is_between => k_is)
    (case q_a_is_list => k_is)
    (case q_l_is_list => k_is)
    (case q_c_is_list => k_is)
    (case q_k_is_list => k_is)
    (case q_a_is_list_of => k_is)
    (case q_l_is_list_of => k_is)
    (case q_c_is_list_of => k_is)
    (case q_k_is_list_of => k_is)
    (case q_a_are_rows => k_is)
    (case q_l_are_rows => k_is)
    (case q_c_are_rows => k_is)
    (case q_k_are_rows => k_is)
    (case q_a__law_box => k_is)
    (case q_l__law_box => k_is)
    (case q_c__law_box => k_is)
    (case q_k__law_box => k_is)
    (case q_a__law_draw => k_is)
    (case q_l__law_draw => k_is)
    (case q_c__law_draw => k_is)
    (case q_k__law_draw => k_is)
    (case q_a__law_value => k_is)
    (case q_l__law_value => k_is)
    (case q_c__law_value => k_is)
    (case q_k__law_value => k_is)
    (case q_a__law_fits => k_is)
    (case q_l__law_fits => k_is)
    (case q_c__law_fits => k_is)
    (case q_k__law_fits => k_is)
    (case q_a__law_turn_due => k_is)
    (case q_l__law_turn_due => k_is)
    (case q_c__law_turn_due => k_is)
    (case q_k__law_turn_due => k_is)
    (case q_a__law_load_due => k_is)
    (case q_l__law_load_due => k_is)
    (case q_c__law_load_due => k_is)
    (case q_k__law_load_due => k_is)
    (case q_a__law_made => k_is)
    (case q_l__law_made => k_is)
    (case q_c__law_made => k_is)
    (case q_k__law_made => k_is)
    (case q_a__law_turns => k_is)
    (case q_l__law_turns => k_is)
    (case q_c__law_turns => k_is)
    (case q_k__law_turns => k_is)
    (case q_a__law_loads => k_is)
    (case q_l__law_loads => k_is)
    (case q_c__law_loads => k_is)
    (case q_k__law_loads => k_is)
    (case q_a_law => k_is)
    (case q_l_law => k_is)
    (case q_c_law => k_is)
    (case q_k_law => k_is)
    (case q_a_BadPart_init => k_is)
    (case q_i_BadPart_init => k_is)
    (case q_l_BadPart_init => k_is)
    (case q_c_BadPart_init => k_is)
    (case q_k_BadPart_init => k_is)
    (case q_a_Turn_init => k_is)
    (case q_i_Turn_init => k_is)
    (case q_l_Turn_init => k_is)
    (case q_c_Turn_init => k_is)
    (case q_k_Turn_init => k_is)
    (case q_a_Turn_eq => k_is)
    (case q_i_Turn_eq => k_is)
    (case q_l_Turn_eq => k_is)
    (case q_c_Turn_eq => k_is)
    (case q_k_Turn_eq => k_is)
    (case q_a_Load_init => k_is)
    (case q_i_Load_init => k_is)
    (case q_l_Load_init => k_is)
    (case q_c_Load_init => k_is)
    (case q_k_Load_init => k_is)
    (case q_a_Load_len => k_is)
    (case q_i_Load_len => k_is)
    (case q_l_Load_len => k_is)
    (case q_c_Load_len => k_is)
    (case q_k_Load_len => k_is)
    (case q_a_Load_eq => k_is)
    (case q_i_Load_eq => k_is)
    (case q_l_Load_eq => k_is)
    (case q_c_Load_eq => k_is)
    (case q_k_Load_eq => k_is)
    (case q_n_isinstance => k_is)
    (case q_n_int => k_is)
    (case q_n_bool => k_is)
    (case q_n_list => k_is)
    (case q_n_tuple => k_is)
    (case q_n_len => k_is)
    (case q_n_all => k_is)
    (case q_n_range => k_is)
    (case q_n_sum => k_is)
    (case q_n_abs => k_is)
    (case q_n_ValueError => k_is)
    (case q_v_MOST_DELAY => k_is)
    (case q_v_MOST_TURN => k_is)
    (case q_v_MOST_NUMBERS => k_is)
    (case q_v_MOST_ROWS => k_is)
    (case q_v_MOST_PARCELS => k_is)
    (case q_v_MOST_QUIET => k_is)
    (case q_s_hn => k_is)
    (case q_s_tk => k_is)
    (case q_pg_Turn => k_is)
    (case q_hd_Turn => k_is)
    (case q_po_Turn => k_is)
    (case q_sa_Turn => k_is)
    (case q_ha_Turn => k_is)
    (case q_hm_Turn => k_is)
    (case q_ne_Turn => k_is)
    (case q_is_Turn => k_is)
    (case q_ty_Turn => k_is)
    (case q_tup_Turn => k_is)
    (case q_lst_Turn => k_is)
    (case q_int_Turn => k_is)
    (case q_str_Turn => k_is)
    (case q_mk_Turn => k_is)
    (case q_kc_Turn => k_is)
    (case q_pg_Load => k_is)
    (case q_hd_Load => k_is)
    (case q_po_Load => k_is)
    (case q_sa_Load => k_is)
    (case q_ha_Load => k_is)
    (case q_hm_Load => k_is)
    (case q_ne_Load => k_is)
    (case q_is_Load => k_is)
    (case q_ty_Load => k_is)
    (case q_tup_Load => k_is)
    (case q_lst_Load => k_is)
    (case q_int_Load => k_is)
    (case q_str_Load => k_is)
    (case q_mk_Load => k_is)
    (case q_kc_Load => k_is)
    (case q_na_least => k_is)
    (case q_na_most => k_is)
    (case q_na_turn => k_is)
    (case q_na_numbers => k_is)
    (case q_na_rows => k_is)
    (case q_na_quiet => k_is)
    (case q_x_L => k_is)
    (case q_x_sa => k_is)
    (case q_x_ex => k_is)
    (case q_x_ty => k_is)
    (case q_x_kC => k_is)
    (case q_x_noA => k_is)
    (case q_x_hg => k_is)
    (case q_x_hk => k_is)
    (case q_x_hd => k_is)
    (case q_x_ha => k_is)
    (case q_x_hm => k_is)
    (case q_x_is => k_is)
    (case q_x_ss => k_is)
    (case q_x_w => k_is)
    (case q_x_wi => k_is)
    (case q_x_wt => k_is)
    (case q_x_i => k_is)
    (case q_x_ii => k_is)
    (case q_x_it => k_is)
    (case q_x_v => k_is)
