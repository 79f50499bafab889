import PyProof.Rows.All
import Wide.All
import OpenK.AllK
import Wide.FinOn
import PyProof.EqAt
import PyProof.EqKinds
import PyProof.TupleCall
import HandS.Base
import HandS.Call
import HandS.List
import HandS.Comp
import HandS.Ends
import HandS.Words
import HandS.WordsList
import HandS.Exc
import HandS.ExcInit
import HandS.ExcIs
import HandS.OwnEq
import HandS.IsInst
import HandS.ExcOwn
import HandS.ExcField
import HandS.WordsExc
import HandS.TryOnly
import HandS.TryMany
import HandS.CallSlots
import HandS.Wide
import HandS.Codes
import KE.KTupSum
import PyProof.ListRange
import KE.GoesEnum
import HandS.Iter
import HandS.Walk
import HandS.HotCalls
import KE.KEqNest
import HandS.MakeKwOnly
import HandS.TupAny
import HandS.Strs
import HandS.Deep
import HandS.Zip
import HandS.Star
import HandS.Conv
import HandS.IterVal
import HandS.ListItems
import KE.KDictZip
import HandS.Defaults
import HandS.Evl
import HandS.Lambda
import HandS.EndTab
import PySem.Challenge.RW_wholeline_k29_roads_and_lulls_built
import HandS.NoneIn
set_option Elab.async false
set_option maxRecDepth 100000
set_option maxHeartbeats 4000000
namespace PySem.W
open PySem PySem.Calls PyProof.Rows
section
variable {prog : Program} {w : World} {A : Around} {E : Value → Shared → Prop} {s : Shared} {K : Frag} {x C L f : Addr} {h₀ : Heap} {m : Str → Option Value} {ox : Obj} {od : Option Obj} {b tb : Value}
theorem objNe_K {Q : Fin → Shared → Prop} (hu : A.units < cLine) (X : K.In s.heap) (I : InstAt s.heap x ox C od)
    (hs : findIn K (.ref C) "__eq__" = some (some (.ref f))) (hf : isFn K (.ref f) = true)
    (h : wpAny (model prog w) A (call (.ref f) [.ref x, b]) (fun v s' => ∃ r, v = .bool r ∧ Q (.done (.ret (.bool (!r)))) s') E s) :
    wpAny (model prog w) A (Builtin.«object.__ne__» ⟨[.ref x, b], []⟩) Q E s := by
  obtain ⟨hp, g, d, tk, os⟩ := s
  unfold Builtin.«object.__ne__»
  repeat (first
    | with_reducible refine wpAny_cRoomFor hu ?_
    | (refine wpAny_bind (m := callSpecialIfBound? (.ref x) (Str.ofString "__eq__") [b])
        (ifBound_K X I hs hf (wpAny_mono h (fun r s' hr => by
          obtain ⟨b, rfl, hq⟩ := hr
          repeat (first | exact hq | exact wpAny_pure hq | exact wpAny_truthy_bool hq | (refine wpAny_bind (m := truthy (.bool _)) (wpAny_truthy_bool ?_)) | wp_step)) fun _ _ e => e)))
    | wp_step)
theorem cmpNe_K {Q : Value → Shared → Prop} (hu : A.units + 1 < cLine) (F : Fr h₀ L s.heap m) (X₀ : K.In h₀) (I : InstAt s.heap x ox C od) (hb : Looks (model prog w) s.heap (typeOf b) tb) (hn : notFirst K C tb = true)
    (hne : findIn K (.ref C) "__ne__" = some (some (.builtin "object.__ne__"))) (hm : mroIn K C (.type "object") = some true)
    (hs : findIn K (.ref C) "__eq__" = some (some (.ref f))) (hf : isFn K (.ref f) = true)
    (h : wpAny (model prog w) A.in1 (call (.ref f) [.ref x, b]) (fun v s' => ∃ r, v = .bool r ∧ Q (.bool (!r)) s') E s) : wpAny (model prog w) A (richCompare .NotEq (.ref x) b) Q E s := by
  have X := X₀.keeps F.keep
  have sub : Looks (model prog w) s.heap (isInstance (.ref x) (.type "object")) true := I.type.andThen (looks_mroIn X hm)
  have one : wpAny (model prog w) A (tryCompare (.ref x) "__ne__" b) (fun r s' => ∃ v, r = some v ∧ Q v s') E s := by
    unfold tryCompare
    refine wpAny_bind ?_
    simp only [callSpecialIfBound?, bindSpecialIfBound?]
    refine wpAny_holding (wpAny_bind (wpAny_bind (wpAny_bind (I.type.here ((looks_findIn X hne).here ?_)))))
    simp only [PySem.F.cmp_object.ne.bind]
    refine wpAny_bind (wpAny_askSetting (wpAny_ite ?_))
    have fin : wpAny (model prog w) A (call (.builtin "object.__ne__") ([.ref x] ++ [b]) >>= fun v => pure (some v)) (fun r s' => wpAny (model prog w) A (match r with
        | some .notImplemented | none => pure none
        | some v => pure (some v)) (fun r s' => ∃ v, r = some v ∧ Q v s') E s') E s := by
      refine wpAny_bind (wpAny_call (codeAny_call_builtin PySem.F.cmp_object.ne.plain PySem.F.cmpEntry_ne (check_slot PySem.F.cmpKind_ne PySem.F.cmpSplit_ne sub (PySem.F.cmpArgs_ne _ _)
        (objNe_K (A := A.in1) hu X I hs hf (wpAny_mono h (fun v s' hv => ?_) fun _ _ e => e)))))
      obtain ⟨r, rfl, hq⟩ := hv
      first | exact ⟨r, rfl, wpAny_pure (wpAny_pure ⟨_, rfl, hq⟩)⟩ | exact ⟨r, rfl, wpAny_pure ⟨_, rfl, hq⟩⟩
    split
    · repeat (first | exact fin | with_reducible refine wpAny_pure ?_ | with_reducible refine wpAny_bind ?_ | with_reducible refine wpAny_tryCatch ?_)
    · refine wpAny_tryCatch ?_
      repeat (first | exact fin | with_reducible refine wpAny_pure ?_ | with_reducible refine wpAny_bind ?_)
  unfold richCompare
  simp only [oneThing_ref]
  refine wpAny_holding (wpAny_bind (wpAny_cRoomFor (Nat.lt_of_succ_lt hu) ?_))
  refine wpAny_bind (I.type.here (wpAny_bind (hb.here ?_)))
  split
  · rename_i q
    have e : subIn K tb (.ref C) = some false := by
      rcases Bool.or_eq_true_iff.mp hn with e | e
      · rw [beq_iff_eq.mp e] at q; simp at q
      · exact beq_iff_eq.mp e
    refine wpAny_bind ((looks_subIn X e).here ?_)
    simp only [Bool.false_eq_true, if_false]
    refine wpAny_bind (wpAny_mono one (fun r s' z => ?_) fun _ _ e => e)
    obtain ⟨v, rfl, hq⟩ := z
    exact wpAny_pure hq
  · refine wpAny_bind (wpAny_pure ?_)
    simp only [Bool.false_eq_true, if_false]
    refine wpAny_bind (wpAny_mono one (fun r s' z => ?_) fun _ _ e => e)
    obtain ⟨v, rfl, hq⟩ := z
    exact wpAny_pure hq
end
end PySem.W

set_option Elab.async false
set_option maxRecDepth 100000
set_option maxHeartbeats 4000000
namespace L2
open PySem PySem.Spec PyProof.Rows
section
variable {X : Cx} {CX : CXT} {k : Nat} {f C : Addr} {fd : FuncData} {ps : List Str} {sp : Sp}
/-- the own method f, called at some frame below with room -/
theorem run_at {A : Around} {pins : List (Addr × Obj)} {σ : St} {H : Hp} {s : Shared} {Q : VK} {us : List Value} {vs : List V} (F : FnOk X.prog X.w X.K X.mg X.base CX k f fd ps sp) (hr : Room k A) (hA : A.frames = X.A.frames) (hb : Binds X.K fd ps []) (hx : Passes CX X E0)
    (I : Inv X pins σ H s) (r : Vals vs us) (h : sp vs H Q E0) : wpAny (model X.prog X.w) A (call (.ref f) us) (EP X pins σ Q) X.xe s := by
  have hl : us.length = ps.length := by rw [← r.length]; exact F.len _ _ _ _ h
  have e0 : Env0 X.prog X.w X.K X.mg X.base A X.stack s H := by
    have e := I.env0
    exact ⟨by rw [hA]; exact e.frames, e.mod, e.bs, e.bsz, e.funs, e.frf, e.hok, e.bare⟩
  refine wpAny_call (codeAny_mono (F.run A X.stack s H ⟨us, []⟩ us vs Q E0 hr e0 (by
    have := hb s us I.kIn (by simpa using hl)
    simpa using this) r h) fun r s' hq => ?_)
  cases r with
  | error e => exact hx pins σ H s e s' I hq
  | ok fl =>
    cases fl with
    | ret u => exact I.after hq
    | next => exact False.elim hq
    | brk => exact False.elim hq
    | cont => exact False.elim hq
/-- x == y, x an instance of the class at C, by its own ==; y anything whose type is known -/
def rEqO (K : PySem.W.Frag) (C : Addr) (sp : Sp) : R2 := fun x y H Q => ∃ a dx fs t, x = .ref a ∧ H a = some (.ins C dx fs) ∧ TyX K H y t ∧ PySem.W.notFirst K C t = true ∧ sp [x, y] H (fun v H' => ∃ b, v = .bl b ∧ Q (.bl b) H') E0
def rNeO (K : PySem.W.Frag) (C : Addr) (sp : Sp) : R2 := fun x y H Q => ∃ a dx fs t, x = .ref a ∧ H a = some (.ins C dx fs) ∧ TyX K H y t ∧ PySem.W.notFirst K C t = true ∧ sp [x, y] H (fun v H' => ∃ b, v = .bl b ∧ Q (.bl (!b)) H') E0
structure EqM (K : PySem.W.Frag) (C f : Addr) : Prop where
  eq : PySem.W.findIn K (.ref C) "__eq__" = some (some (.ref f))
  fn : PySem.W.isFn K (.ref f) = true
  ne : PySem.W.findIn K (.ref C) "__ne__" = some (some (.builtin "object.__ne__"))
  ob : PySem.W.mroIn K C (.type "object") = some true
theorem op_eqO (F : FnOk X.prog X.w X.K X.mg X.base CX k f fd ps sp) (M : EqM X.K C f) (hr : Room k X.A) (hb : Binds X.K fd ps []) (hx : Passes CX X E0) : OpR X (compareOp .Eq) (rEqO X.K C sp) := by
  intro pins s σ H x y v u Q I rx ry hq
  obtain ⟨a, dx, fs, t, rfl, ha, ty, hn, q⟩ := hq
  cases (show v = Value.ref a from rx)
  obtain ⟨P, Z, p, _⟩ := kit_of I ry ty
  obtain ⟨mA, J, _⟩ := ins_get I.hok ha
  obtain ⟨od, J, _⟩ := J.look
  obtain ⟨m, hF⟩ := I.fr
  show wpAny (model X.prog X.w) X.A (richCompare .Eq (.ref a) u) (EP X pins σ Q) X.xe s
  refine PySem.W.cmp_K (op := .Eq) (tb := t) hr.units0 hF I.ok.mod.kin J (Z.ty _ _ I.kIn p) hn M.eq M.fn ?_
  refine wpAny_mono (run_at (vs := [.ref a, y]) F hr rfl hb hx I (.cons rfl (.cons ry .nil)) q) (fun v' s' z => ?_) fun _ _ e => e
  obtain ⟨w', H', I', rv, b, rfl, q'⟩ := z
  cases rv
  exact ⟨.bl b, H', I', rfl, q'⟩
theorem op_neO (F : FnOk X.prog X.w X.K X.mg X.base CX k f fd ps sp) (M : EqM X.K C f) (hr : Room (k + 1) X.A) (hb : Binds X.K fd ps []) (hx : Passes CX X E0) : OpR X (compareOp .NotEq) (rNeO X.K C sp) := by
  intro pins s σ H x y v u Q I rx ry hq
  obtain ⟨a, dx, fs, t, rfl, ha, ty, hn, q⟩ := hq
  cases (show v = Value.ref a from rx)
  obtain ⟨P, Z, p, _⟩ := kit_of I ry ty
  obtain ⟨mA, J, _⟩ := ins_get I.hok ha
  obtain ⟨od, J, _⟩ := J.look
  obtain ⟨m, hF⟩ := I.fr
  show wpAny (model X.prog X.w) X.A (richCompare .NotEq (.ref a) u) (EP X pins σ Q) X.xe s
  refine PySem.W.cmpNe_K (tb := t) (by have := hr.units; omega) hF I.ok.mod.kin J (Z.ty _ _ I.kIn p) hn M.ne M.ob M.eq M.fn ?_
  refine wpAny_mono (run_at (vs := [.ref a, y]) F hr.in1 rfl hb hx I (.cons rfl (.cons ry .nil)) q) (fun v' s' z => ?_) fun _ _ e => e
  obtain ⟨w', H', I', rv, b, rfl, q'⟩ := z
  cases rv
  exact ⟨b, rfl, .bl (!b), H', I', rfl, q'⟩
/-- len(o), o an instance of the class at C with an own __len__ -/
def rLenO (C : Addr) (sp : Sp) : List V → Hp → VK → Prop := fun xs H Q => ∃ a dx fs, xs = [.ref a] ∧ H a = some (.ins C dx fs) ∧ sp [.ref a] H (fun v H' => ∃ n : Int, v = .int n ∧ (0 ≤ n ∧ n < 2 ^ 63) ∧ Q (.int n) H') E0
theorem call_lenO (F : FnOk X.prog X.w X.K X.mg X.base CX k f fd ps sp) (hs : PySem.W.findIn X.K (.ref C) "__len__" = some (some (.ref f))) (hf : PySem.W.isFn X.K (.ref f) = true) (hr : Room (k + 1) X.A) (hb : Binds X.K fd ps []) (hx : Passes CX X E0) :
    CallR X (.builtin "len") (rLenO C sp) := by
  intro pins s σ H xs us Q I r h
  obtain ⟨a, dx, fs, rfl, ha, q⟩ := h
  cases r with
  | cons rx rr =>
    rename_i u us'
    cases rr
    cases (show u = Value.ref a from rx)
    obtain ⟨mA, J, _⟩ := ins_get I.hok ha
    obtain ⟨od, J, _⟩ := J.look
    obtain ⟨m, hF⟩ := I.fr
    refine PySem.W.len_K hF I.ok.mod.kin J hs hf ?_
    refine wpAny_mono (run_at (vs := [.ref a]) F hr.in1 rfl hb hx I (.cons rfl .nil) q) (fun v' s' z => ?_) fun _ _ e => e
    obtain ⟨w', H', I', rv, n, rfl, hn, q'⟩ := z
    obtain ⟨t, rfl⟩ := (show ∃ t, v' = Value.int n t from rv)
    exact ⟨hn, .int n, H', I'.tok _, ⟨_, rfl⟩, q'⟩
end
end L2

set_option Elab.async false
set_option maxRecDepth 100000
set_option maxHeartbeats 4000000
namespace PySem.W
open PySem PySem.Spec PySem.Calls PyProof.Rows
section
variable {K : Frag} {C : Addr}
theorem findObj_dat {od : Option Obj} {name : Str} {a g : Value} (hc : (clsIn K C).isSome = true) (ha : findIn K (.ref C) name = some (some a)) (hg : specialIn K a "__get__" = some (some g)) (ht : takesIn K a = some true) :
    findObj K C od name = some (.bind g a) := by
  obtain ⟨cd, hc⟩ := Option.isSome_iff_exists.mp hc
  simp [findObj, hc, ha, hg, ht]
variable {prog : Program} {w : World} {A : Around} {E : Value → Shared → Prop} {s : Shared} {x D : Addr} {ox : Obj}
theorem kin_classD {od : Option Obj} {Q : Option Value → Shared → Prop} (T : L2.ExcC K D)
    (X : K.In s.heap) (I : InstAt s.heap x ox D od) (h : Q (some (.ref D)) { s with toks := s.toks + 1 }) : wpAny (model prog w) A (getAttr? (.ref x) "__class__") Q E s := by
  have hf : findObj K D od "__class__" = some (.bind (.builtin "getset_descriptor.__get__") (.builtin "object.__class__")) :=
    findObj_dat (by obtain ⟨cd, hc, _⟩ := any_some T.hd; rw [hc]; rfl) T.ha T.hn T.ht
  obtain ⟨hp, g, d, t, os⟩ := s
  have L0 := I.type (M := model prog w)
  have L1 := looks_findIn (M := model prog w) X T.hg
  have L2 := looks_findIn (M := model prog w) X T.hk
  have L3 := looks_find (M := model prog w) X I hf
  have sub : Looks (model prog w) hp (isInstance (.ref x) (.type "BaseException")) true := L0.andThen (looks_subIn X T.hs)
  have hx0 : (false && onTheHeap (Value.builtin "BaseException.__getattribute__")) = false := rfl
  have hx2 : (Value.builtin "BaseException.__getattribute__" == Value.builtin "object.__getattribute__") = false := by decide +kernel
  have hx1 : (onTheHeap (Value.ref D) && Value.builtin "BaseException.__getattribute__" == Value.builtin "object.__getattribute__") = false := by rw [hx2]; rfl
  unfold getAttr? getAttrBy? getAttrBy
  refine wpAny_bind (wpAny_mkText (wpAny_bind (wpAny_attempt (wpAny_holding (wpAny_bind (L0.at (wpAny_bind (L1.at ?_))))))))
  show wpAny _ _ (if (onTheHeap (Value.ref D) && Value.builtin "BaseException.__getattribute__" == Value.builtin "object.__getattribute__") = true then _ else _) _ _ _
  rw [hx1, if_neg Bool.false_ne_true]
  unfold getAttrByItsOwn hookBefore
  refine wpAny_bind ?_
  rw [if_pos (show onTheHeap (Value.ref D) = true from rfl)]
  refine L2.at ?_
  refine wpAny_bind (wpAny_attempt (wpAny_holding ?_))
  unfold callGetattribute
  rw [hx0, if_neg Bool.false_ne_true]
  unfold boundAndCalled
  rw [PySem.F.excAttr_ValueError.ga.bind (.ref x)]
  refine wpAny_bind (wpAny_pure ?_)
  show wpAny _ _ (call (.builtin "BaseException.__getattribute__") [.ref x, .str "__class__" t]) _ _ _
  refine wpAny_call (codeAny_call_builtin PySem.F.excAttr_ValueError.ga.plain PySem.F.entry_bexc_ga ?_)
  refine @check_slot (model prog w) _ _ ⟨hp, g, d, t + 1, os⟩ "BaseException.__getattribute__" "BaseException" "__getattribute__" (.ref x) [.str "__class__" t] [] _ (by decide +kernel) (by decide +kernel) sub (PySem.F.args_bexc_ga (.ref x) (.str "__class__" t)) ?_
  unfold Builtin.«object.__getattribute__»
  refine wpAny_bind (wpAny_of_eq (a := ((Value.ref x : Value), [Value.str "__class__" t])) (by first | rfl | (simp only [slotArgs]; rfl)) ?_)
  refine wpAny_bind (wpAny_pure (wpAny_bind (L0.at (wpAny_bind (L3.at ?_)))))
  show wpAny _ _ (holding [Value.builtin "object.__class__"] (call (.builtin "getset_descriptor.__get__") [.builtin "object.__class__", .ref x, .ref D]) >>= ret) _ _ _
  refine wpAny_bind (wpAny_holding (wpAny_call (class_get (s := ⟨hp, g, d, t + 1, os⟩) (ox := ox) (od := od) X I T.hm ?_)))
  refine wpAny_pure ?_
  show wpAny _ _ (handedOut (.ref D)) _ _ _
  rw [handedOut_of (v := .ref D) rfl]
  first
    | exact wpAny_pure (wpAny_pure h)
    | exact wpAny_pure h
    | exact wpAny_pure (wpAny_bind (wpAny_pure (wpAny_pure h)))
theorem kitx_excD (T : L2.ExcC K D) : KitX K (.ref x) (.ref D) (fun h => ∃ od, InstAt h x ox D od) where
  ty := fun _ _ _ I => by
    obtain ⟨_, I⟩ := I
    exact I.type
  it := fun M h X _ => by
    obtain ⟨cdD, hcD, _⟩ := any_some T.hd
    unfold clsIn at hcD
    split at hcD
    · rename_i c' d' cd' sl' ho
      intro A' Q' E' s' k q
      unfold isType loadHead
      exact wpAny_bind (wpAny_loadPart (k _ _ (X _ _ ho)) (wpAny_pure q))
    · cases hcD
  ne := fun h tp dd its n sl X htp => by
    obtain ⟨cdD, hcD, _⟩ := any_some T.hd
    refine Bool.eq_false_iff.mpr fun q => ?_
    have e : D = tp := Value.ref.inj (beq_iff_eq.mp q)
    subst e
    unfold clsIn at hcD
    split at hcD
    · rename_i c' d' cd' sl' ho
      have z := (X _ _ ho).symm.trans htp
      cases z
    · cases hcD
  ca := fun X I k => by
    obtain ⟨_, I⟩ := I
    exact kin_classD T X I k
end
end PySem.W
namespace L2
open PySem PySem.Spec PyProof.Rows
section
variable {X : Cx}
/-- isinstance(e, c), e the exception that the suite holds, with a dict or without -/
theorem call_isED {a D : Addr} {d : Option Addr} {oe : Obj} {pn : List (Addr × Obj)} (C : ExcC X.K D) (hz : Zc (.ref D) d oe) (hf : ∃ vs, oe.data = .fields vs) (hd : ∀ (pins : List (Addr × Obj)) (σ : St) (H : Hp) (s : Shared), Inv (X.suite a ((a, oe) :: pn)) pins σ H s → ∀ dd, d = some dd → ∃ od, s.heap.get? dd = some od) :
    CallR (X.suite a ((a, oe) :: pn)) (.builtin "isinstance") (rIsE X.K D a) := by
  intro pins s σ H xs us Q I r h
  obtain ⟨c, cv, b, rfl, hcv, e, q⟩ := h
  cases r with
  | cons rx rr =>
    cases rr with
    | cons rt rr =>
      cases rr
      cases rx
      have ec := hcv _ rt
      subst ec
      obtain ⟨hget, _⟩ := I.pin (a, oe) (List.mem_append.mpr (.inl List.mem_cons_self))
      obtain ⟨vs, hv⟩ := hf
      have J : ∃ od, PySem.W.InstAt s.heap a oe D od := by
        have hd' := hd pins σ H s I
        obtain ⟨oc, od, oda, osl⟩ := oe
        obtain ⟨h1, h2⟩ := hz
        dsimp only at h1 h2 hv
        subst h1 h2 hv
        cases od with
        | none => exact ⟨none, hget, rfl, rfl, trivial⟩
        | some dd =>
          obtain ⟨o, ho⟩ := hd' dd rfl
          exact ⟨some o, hget, rfl, rfl, ho⟩
      exact PySem.W.kia_one (PySem.W.kitx_excD C) I.kIn J e (fun z => nomatch z) fun tk => ⟨.bl b, H, I.kept (t' := tk) fun _ _ z => z, rfl, q⟩
/-- the same where the dict is tracked: the reading asks it -/
def rIsED (K : PySem.W.Frag) (D a : Addr) (cls : Value) (d : Option Addr) : List V → Hp → VK → Prop := fun xs H Q => cls = .ref D ∧ (∀ dd, d = some dd → ∃ fs, H dd = some (.xd fs)) ∧ ∃ (c : V) (cv : Value) (b : Bool), xs = [.ref a, c] ∧ (∀ u, RelV c u → u = cv) ∧ PySem.W.kitOne K (.ref D) cv = some b ∧ Q (.bl b) H
theorem call_isEX {a D : Addr} {cls : Value} {d : Option Addr} {oe : Obj} {pn : List (Addr × Obj)} (C : ExcC X.K D) (hz : Zc cls d oe) (hf : ∃ vs, oe.data = .fields vs) : CallR (X.suite a ((a, oe) :: pn)) (.builtin "isinstance") (rIsED X.K D a cls d) := by
  intro pins s σ H xs us Q I r h
  obtain ⟨ec0, hdd, c, cv, b, rfl, hcv, e, q⟩ := h
  subst ec0
  cases r with
  | cons rx rr =>
    cases rr with
    | cons rt rr =>
      cases rr
      cases rx
      have ec := hcv _ rt
      subst ec
      obtain ⟨hget, _⟩ := I.pin (a, oe) (List.mem_append.mpr (.inl List.mem_cons_self))
      obtain ⟨vs, hv⟩ := hf
      have J : ∃ od, PySem.W.InstAt s.heap a oe D od := by
        obtain ⟨oc, od, oda, osl⟩ := oe
        obtain ⟨h1, h2⟩ := hz
        dsimp only at h1 h2 hv
        subst h1 h2 hv
        cases od with
        | none => exact ⟨none, hget, rfl, rfl, trivial⟩
        | some dd =>
          obtain ⟨fs, hfs⟩ := hdd dd rfl
          obtain ⟨mA, hns, _⟩ := (show ObjOk X.prog X.w H s.heap dd (.xd fs) from I.hok dd _ hfs)
          obtain ⟨od, ho, _⟩ := lookIn_ns hns
          exact ⟨some od, hget, rfl, rfl, ho⟩
      exact PySem.W.kia_one (PySem.W.kitx_excD C) I.kIn J e (fun z => nomatch z) fun tk => ⟨.bl b, H, I.kept (t' := tk) fun _ _ z => z, rfl, q⟩
end
section
variable {X : Cx} {CX : CXT} {k : Nat} {f C : Addr} {fd : FuncData} {ps : List Str} {sp : Sp} {dvs : List V} {ds : List Value} {E : St → XK} {x m : Str} {p pos apos : Pos} {e o : Expr} {es : List Expr} {ta : TE} {t : TA}
/-- C(e, ..) where what is raised is wished for at the slots as they stand -/
def tMakeS (C : Addr) (sp : Sp) (dvs : List V) (E : St → XK) (t : TA) : TE := fun σ H Q => t σ H fun vs H1 => ∀ x dx, H1 x = none → H1 dx = none → dx ≠ x →
  sp (.ref x :: (vs ++ dvs)) (upd (upd H1 dx (.own x)) x (.ins C dx [])) (fun v H2 => v = .non ∧ Q (.ref x) H2) (fun cls d H2 => E σ cls d H2)
theorem run_makeS {pins : List (Addr × Obj)} {σ : St} {H : Hp} {s : Shared} {Q : VK} {us : List Value} {vs : List V} (M : Mk X.K C f) (F : FnOk X.prog X.w X.K X.mg X.base CX k f fd ps sp) (hr : Room (k + 1) X.A) (hb : Binds X.K fd ps ds) (hd : Vals dvs ds)
    (hx : PassesAt CX X σ (E σ)) (I : Inv X pins σ H s) (r : Vals vs us)
    (h : ∀ x dx, H x = none → H dx = none → dx ≠ x → sp (.ref x :: (vs ++ dvs)) (upd (upd H dx (.own x)) x (.ins C dx [])) (fun v H2 => v = .non ∧ Q (.ref x) H2) (E σ)) :
    wpAny (model X.prog X.w) X.A (call (.ref C) us) (EP X pins σ Q) X.xe s := by
  have hq := h (s.heap.objs.size + 1) s.heap.objs.size (I.hok.fresh (Nat.le_succ _)) (I.hok.fresh (Nat.le_refl _)) (Nat.ne_of_lt (Nat.lt_succ_self _))
  have I2 := Inv.made (C := C) I
  have r2 : Vals (V.ref (s.heap.objs.size + 1) :: (vs ++ dvs)) (Value.ref (s.heap.objs.size + 1) :: (us ++ ds)) := .cons rfl (r.append hd)
  have hl : (Value.ref (s.heap.objs.size + 1) :: us ++ ds).length = ps.length := by
    have e := r2.length
    rw [F.len _ _ _ _ hq] at e
    exact e.symm
  refine wpAny_call (make_map (f := f) I.kIn M.makes M.init (beq_iff_eq.mp M.fn) (codeAny_mono (F.run _ X.stack _ _ ⟨Value.ref (s.heap.objs.size + 1) :: us, []⟩ (Value.ref (s.heap.objs.size + 1) :: (us ++ ds)) _ _ (E σ) (hr.make C us [])
    (I2.env0.make C us []) (hb _ (Value.ref (s.heap.objs.size + 1) :: us) I2.kIn hl) r2 hq) fun r s' hq' => ?_))
  cases r with
  | error e => exact hx pins _ _ e s' I2 hq'
  | ok fl =>
    cases fl with
    | ret u =>
      obtain ⟨v, H', I3, rv, ev, q3⟩ := I2.after hq'
      subst ev
      exact ⟨rv, ⟨V.ref (s.heap.objs.size + 1), H', I3, rfl, q3⟩⟩
    | next => exact False.elim hq'
    | brk => exact False.elim hq'
    | cont => exact False.elim hq'
theorem pe_makeS (M : Mk X.K C f) (F : FnOk X.prog X.w X.K X.mg X.base CX k f fd ps sp) (hr : Room (k + 1) X.A) (hg : Gl X x) (hm : X.mg x = some (.ref C)) (hb : Binds X.K fd ps ds) (hd : Vals dvs ds) (hx : ∀ σ, PassesAt CX X σ (E σ))
    (ha : PA X (e :: es) t) (hdb : (x == ("__debug__" : Str)) = false := by decide) (he : starEach (e :: es) X.env = (false, eval e X.env) :: starEach es X.env := by rfl) (hpl : (backTo pos (starEach es X.env)).any (·.1) = false := by rfl) :
    PE X (.Call (.Name x p) (e :: es) [] pos) (tMakeS C sp dvs E t) := by
  refine ⟨fun pins s σ H Q I h => ?_⟩
  refine wpAny_Call_Name_kw (ld_glob I hg hm ?_ hdb)
  refine PySem.W.callWith_K (h₀ := X.base) I.ok.mod.kin M.kp (thn (ha.run pos pins s σ H _ I h) fun us s1 ⟨vs, H1, I1, r, q⟩ => ⟨I1.kIn, ?_⟩) he hpl
  exact run_makeS M F hr hb hd (hx σ) I1 r q
/-- o.m(e, ..) | o.m() likewise -/
def tMethSD (C : Addr) (m : Str) (sp : Sp) (dvs : List V) (E : St → XK) (ta : TE) (t : TA) : TE := fun σ H Q => ta σ H fun x H1 => ∃ a dx fs, x = .ref a ∧ H1 a = some (.ins C dx fs) ∧ fs.lookup m = none ∧
  t σ H1 fun vs H2 => sp (x :: (vs ++ dvs)) H2 Q (E σ)
theorem pe_methSD {pl : Sem Bool} (he : PE X o ta) (c : Cls X.K C) (hm : Meth X.K C m f) (F : FnOk X.prog X.w X.K X.mg X.base CX k f fd ps sp) (hr : Room k X.A) (hb : Binds X.K fd ps ds) (hd : Vals dvs ds) (hx : ∀ σ, PassesAt CX X σ (E σ)) (ha : PA X (e :: es) t)
    (hst : starEach (e :: es) X.env = (false, eval e X.env) :: starEach es X.env := by rfl) (hpl : (backTo pos (starEach es X.env)).any (·.1) = false := by rfl)
    (ht : eval (.Call (.Attribute o m apos) (e :: es) [] pos) X.env = (do
      let ov ← eval o X.env
      standAt apos.atName
      let (f, first) ← holding [ov] (getMethod ov m pl)
      callWith pos f first (backTo pos (starEach (e :: es) X.env)) (backToKw pos (keywordEach [] X.env))) := by rfl) :
    PE X (.Call (.Attribute o m apos) (e :: es) [] pos) (tMethSD C m sp dvs E ta t) := by
  refine ⟨fun pins s σ H Q I h => ?_⟩
  refine PySem.W.methodCall_KW (pl := pl) (thn (he.run pins s σ H _ I h) fun u s1 ⟨x, H1, I1, rx, a, dx, fs, ex, ea, l, q⟩ => ?_) ht
  subst ex
  obtain rfl : u = Value.ref a := rx
  refine getmeth_ok I1 ea c hm l ?_
  refine PySem.W.callWith_K (first := [.ref a]) (h₀ := X.base) I.ok.mod.kin hm.kp (thn (ha.run pos pins s1 σ H1 _ I1 q) fun us s2 ⟨vs, H2, I2, r, q2⟩ => ⟨I2.kIn, ?_⟩) hst hpl
  exact run_fnSD (us := .ref a :: us) (vs := .ref a :: vs) F hr hb hd (hx σ) I2 (.cons rfl r) q2
theorem pe_methSD0 {pl : Sem Bool} (he : PE X o ta) (c : Cls X.K C) (hm : Meth X.K C m f) (F : FnOk X.prog X.w X.K X.mg X.base CX k f fd ps sp) (hr : Room k X.A) (hb : Binds X.K fd ps ds) (hd : Vals dvs ds) (hx : ∀ σ, PassesAt CX X σ (E σ))
    (ht : eval (.Call (.Attribute o m apos) [] [] pos) X.env = (do
      let ov ← eval o X.env
      standAt apos.atName
      let (f, first) ← holding [ov] (getMethod ov m pl)
      callWith pos f first (backTo pos (starEach [] X.env)) (backToKw pos (keywordEach [] X.env))) := by rfl) :
    PE X (.Call (.Attribute o m apos) [] [] pos) (tMethSD C m sp dvs E ta tNil) := by
  refine ⟨fun pins s σ H Q I h => ?_⟩
  refine PySem.W.methodCall_KW (pl := pl) (thn (he.run pins s σ H _ I h) fun u s1 ⟨x, H1, I1, rx, a, dx, fs, ex, ea, l, q⟩ => ?_) ht
  subst ex
  obtain rfl : u = Value.ref a := rx
  refine getmeth_ok I1 ea c hm l ?_
  exact PySem.W.callWith_K0 (first := [.ref a]) I1.kIn hm.kp (run_fnSD (us := [.ref a]) (vs := [.ref a]) F hr hb hd (hx σ) I1 (.cons rfl .nil) q)
end

/-! ### own errors with one field -/
/-- what __init__ of such an error does: self.f = v -/
def spXI (C : Addr) (f : Str) : Sp := fun vs H Q _ => ∃ (a : Addr) (y : V), vs = [.ref a, y] ∧ H a = some (exo a C none) ∧ ∀ dx, H dx = none → dx ≠ a → Q .non (upd (upd H dx (exd dx [(f, y)])) a (exo a C (some dx)))
/-- all that is asked of the class x of errors at C, whose field is f -/
structure XCls (P : Program) (w : World) (K : PySem.W.Frag) (mg : Str → Option Value) (base : Heap) (x f : Str) (C : Addr) : Prop where
  ox : OexC K C
  gC : mg x = some (.ref C)
  noA : PySem.W.findIn K (.ref C) f = some none
  ec : ExcC K C
  ini : ∃ (fI : Addr) (fd : FuncData), PySem.W.findIn K (.ref C) "__init__" = some (some (.ref fI)) ∧ PySem.W.typeIn K (.ref fI) = some (.type "function") ∧ FnOk P w K mg base CX0 1 fI fd ["self", f] (spXI C f) ∧ Binds K fd ["self", f] []
theorem XCls.xf {P : Program} {w : World} {K : PySem.W.Frag} {mg : Str → Option Value} {base : Heap} {x f : Str} {C : Addr} (T : XCls P w K mg base x f C) : XfC K C := ⟨T.ec.hg, T.ec.hk, T.ec.hs, T.ec.hd⟩
section
variable {X : Cx} {C : Addr} {x f : Str} {e : Expr} {te : TE} {p pos pos2 : Pos}
theorem pmk_X (T : XCls X.prog X.w X.K X.mg X.base x f C) (hr : Room 2 X.A) (he : PE X e te) (hg : Gl X x) (hdb : (x == ("__debug__" : Str)) = false := by decide)
    (hs : starEach [e] X.env = (false, eval e X.env) :: starEach [] X.env := by rfl) (hpl : (backTo pos (starEach [] X.env)).any (·.1) = false := by rfl) :
    PMk X (.Call (.Name x p) [e] [] pos) (tMkO C (spXI C f) [] (tCons te tNil)) := by
  obtain ⟨fI, fd, i1, i2, F, b⟩ := T.ini
  exact pmk_oex (dvs := []) (ds := []) T.ox i1 i2 F hr b .nil pass0 hg T.gC (pa_cons he pa_nil hs) hdb hs hpl
/-- what is left to be shown behind the argument y -/
theorem mkX_fin {H1 : Hp} {y : V} {Q : XK} (h : ∀ d, H1 d = none → Q (.ref C) (some d) (upd H1 d (.xd [(f, y)]))) :
    [y].length ≤ 1000 ∧ ∀ a, H1 a = none → spXI C f (.ref a :: ([y] ++ [])) (upd H1 a (exo a C none))
      (fun v H2 => v = .non ∧ ∃ (d : Addr) (fs : List (Str × V)), H2 a = some (exo a C (some d)) ∧ H2 d = some (exd d fs) ∧ H1 d = none ∧ Q (.ref C) (some d) (upd (del H2 a) d (.xd fs))) (fun _ _ _ => False) := by
  refine ⟨by show 1 ≤ 1000; decide, fun a ha => ⟨a, y, rfl, upd_same, fun dx hdx hne => ⟨rfl, dx, [(f, y)], upd_same, ?_, ?_, ?_⟩⟩⟩
  · rw [upd_ne hne, upd_same]
  · rw [upd_ne hne] at hdx
    exact hdx
  · have hdx' : H1 dx = none := by
      rw [upd_ne hne] at hdx
      exact hdx
    have e : upd (del (upd (upd (upd H1 a (exo a C none)) dx (exd dx [(f, y)])) a (exo a C (some dx))) a) dx (.xd [(f, y)]) = upd H1 dx (.xd [(f, y)]) := by
      funext b
      by_cases hb : b = dx
      · rw [hb, upd_same, upd_same]
      · rw [upd_ne hb, upd_ne hb]
        by_cases hba : b = a
        · rw [hba, del_same, ha]
        · rw [del_ne hba, upd_ne hba, upd_ne hb, upd_ne hba]
    rw [e]
    exact h dx hdx'
end
end L2

set_option Elab.async false
set_option maxRecDepth 100000
set_option maxHeartbeats 4000000
namespace L2
open PySem PySem.Spec PyProof.Rows
section
variable (P : Program) (w : World) (K : PySem.W.Frag) (mg : Str → Option Value) (base : Heap)
/-- a def of the top, as the text has it -/
structure DefAt (x : Str) (st : Stmt) (ps : List Str) : Prop where
  ex : ∃ (f : Addr) (fd : FuncData), Fun K x x st f fd ∧ mg x = some (.ref f) ∧ Binds K fd ps []
/-- a def of the top that keeps its promise -/
structure Own (CX : CXT) (x : Str) (k : Nat) (ps : List Str) (sp : Sp) : Prop where
  ex : ∃ (f : Addr) (fd : FuncData), FnOk P w K mg base CX k f fd ps sp ∧ mg x = some (.ref f) ∧ PySem.W.keepIn K (.ref f) = true ∧ Binds K fd ps []
/-- a method of the class at C, as the text has it; one that keeps its promise -/
structure MethAt (C : Addr) (m qual : Str) (st : Stmt) (ps : List Str) : Prop where
  ex : ∃ (f : Addr) (fd : FuncData), Fun K m qual st f fd ∧ PySem.W.findIn K (.ref C) m = some (some (.ref f)) ∧ PySem.W.isFn K (.ref f) = true ∧ Binds K fd ps []
structure OwnM (CX : CXT) (C : Addr) (m : Str) (k : Nat) (ps : List Str) (sp : Sp) : Prop where
  ex : ∃ (f : Addr) (fd : FuncData), FnOk P w K mg base CX k f fd ps sp ∧ Meth K C m f ∧ PySem.W.isFn K (.ref f) = true ∧ Binds K fd ps []
/-- a class of the top with an own __init__ that keeps its promise -/
structure OwnC (CX : CXT) (x : Str) (C : Addr) (k : Nat) (ps : List Str) (sp : Sp) : Prop where
  ex : ∃ (f : Addr) (fd : FuncData), FnOk P w K mg base CX k f fd ps sp ∧ Mk K C f ∧ mg x = some (.ref C) ∧ Binds K fd ps []
end
section
variable {P : Program} {w : World} {K : PySem.W.Frag} {mg : Str → Option Value} {base : Heap} {CX : CXT} {x m qual : Str} {k : Nat} {ps : List Str} {sp : Sp} {st : Stmt} {C : Addr}
theorem DefAt.own (D : DefAt K mg x st ps) (h : ∀ f fd, Fun K x x st f fd → FnOk P w K mg base CX k f fd ps sp) : Own P w K mg base CX x k ps sp := by
  obtain ⟨f, fd, F, hm, hb⟩ := D.ex
  exact ⟨f, fd, h f fd F, hm, F.kp, hb⟩
theorem MethAt.own (D : MethAt K C m qual st ps) (h : ∀ f fd, Fun K m qual st f fd → FnOk P w K mg base CX k f fd ps sp) : OwnM P w K mg base CX C m k ps sp := by
  obtain ⟨f, fd, F, hm, hi, hb⟩ := D.ex
  exact ⟨f, fd, h f fd F, ⟨hm, hi, F.kp⟩, hi, hb⟩
theorem MethAt.cls (D : MethAt K C "__init__" qual st ps) (h : ∀ f fd, Fun K "__init__" qual st f fd → FnOk P w K mg base CX k f fd ps sp) (m1 : PySem.W.makesIn K C = true) (m2 : PySem.W.keepIn K (.ref C) = true) (m3 : mg x = some (.ref C)) :
    OwnC P w K mg base CX x C k ps sp := by
  obtain ⟨f, fd, F, hm, hi, hb⟩ := D.ex
  exact ⟨f, fd, h f fd F, ⟨m1, hm, hi, m2⟩, m3, hb⟩
end
section
variable {X : Cx} {CX : CXT} {x m : Str} {k : Nat} {ps : List Str} {sp : Sp} {e o : Expr} {es : List Expr} {t : TA} {ta : TE} {p pos apos : Pos} {C : Addr}
theorem pe_own (O : Own X.prog X.w X.K X.mg X.base CX x k ps sp) (hr : Room k X.A) (hx : Passes CX X E0) (ha : PA X (e :: es) t) (hg : Gl X x := by rfl) (hdb : (x == ("__debug__" : Str)) = false := by decide)
    (he : starEach (e :: es) X.env = (false, eval e X.env) :: starEach es X.env := by rfl) (hpl : (backTo pos (starEach es X.env)).any (·.1) = false := by rfl) : PE X (.Call (.Name x p) (e :: es) [] pos) (tCall sp [] E0 t) := by
  obtain ⟨f, fd, F, hm, hk, hb⟩ := O.ex
  exact pe_call F hr hg hm hk hb .nil hx ha hdb he hpl
theorem pe_own0 (O : Own X.prog X.w X.K X.mg X.base CX x k ps sp) (hr : Room k X.A) (hx : Passes CX X E0) (hg : Gl X x := by rfl) (hdb : (x == ("__debug__" : Str)) = false := by decide) : PE X (.Call (.Name x p) [] [] pos) (tCall sp [] E0 tNil) := by
  obtain ⟨f, fd, F, hm, hk, hb⟩ := O.ex
  exact pe_call0 F hr hg hm hk hb .nil hx hdb
/-- one that may raise; W is wished for what it raises -/
theorem pe_ownS {W : WX} (O : Own X.prog X.w X.K X.mg X.base (L2.CX X.prog X.w) x k ps sp) (hr : Room k X.A) (tk : Takes X W) (ha : PA X (e :: es) t) (hg : Gl X x := by rfl) (hdb : (x == ("__debug__" : Str)) = false := by decide)
    (he : starEach (e :: es) X.env = (false, eval e X.env) :: starEach es X.env := by rfl) (hpl : (backTo pos (starEach es X.env)).any (·.1) = false := by rfl) : PE X (.Call (.Name x p) (e :: es) [] pos) (tCallS sp (WE W) t) := by
  obtain ⟨f, fd, F, hm, hk, hb⟩ := O.ex
  exact pe_callS F hr hg hm hk hb (fun σ => passAt tk σ) ha hdb he hpl
theorem pe_new (O : OwnC X.prog X.w X.K X.mg X.base CX x C k ps sp) (hr : Room (k + 1) X.A) (hx : Passes CX X E0) (ha : PA X (e :: es) t) (hg : Gl X x := by rfl) (hdb : (x == ("__debug__" : Str)) = false := by decide)
    (he : starEach (e :: es) X.env = (false, eval e X.env) :: starEach es X.env := by rfl) (hpl : (backTo pos (starEach es X.env)).any (·.1) = false := by rfl) : PE X (.Call (.Name x p) (e :: es) [] pos) (tMake C sp [] E0 t) := by
  obtain ⟨f, fd, F, M, hm, hb⟩ := O.ex
  exact pe_make M F hr hg hm hb .nil hx ha hdb he hpl
theorem pe_newS {W : WX} (O : OwnC X.prog X.w X.K X.mg X.base (L2.CX X.prog X.w) x C k ps sp) (hr : Room (k + 1) X.A) (tk : Takes X W) (ha : PA X (e :: es) t) (hg : Gl X x := by rfl) (hdb : (x == ("__debug__" : Str)) = false := by decide)
    (he : starEach (e :: es) X.env = (false, eval e X.env) :: starEach es X.env := by rfl) (hpl : (backTo pos (starEach es X.env)).any (·.1) = false := by rfl) : PE X (.Call (.Name x p) (e :: es) [] pos) (tMakeS C sp [] (WE W) t) := by
  obtain ⟨f, fd, F, M, hm, hb⟩ := O.ex
  exact pe_makeS M F hr hg hm hb .nil (fun σ => passAt tk σ) ha hdb he hpl
theorem pe_gint {n : Int} (hm : ∃ t, X.mg x = some (.int n t)) (hg : Gl X x := by rfl) (hd : (x == ("__debug__" : Str)) = false := by decide) : PE X (.Name x pos) (tC (.int n)) := by
  obtain ⟨t, hm⟩ := hm
  exact pe_glob hg hm ⟨t, rfl⟩ hd
theorem pe_gcls (hm : X.mg x = some (.ref C)) (hg : Gl X x := by rfl) (hd : (x == ("__debug__" : Str)) = false := by decide) : PE X (.Name x pos) (tC (.ref C)) := pe_glob hg hm rfl hd
end
/-! ### ==, != by own methods, len -/
section
variable {X : Cx} {CX : CXT} {k : Nat} {C : Addr} {ps : List Str} {sp : Sp}
structure NeM (K : PySem.W.Frag) (C : Addr) : Prop where
  ne : PySem.W.findIn K (.ref C) "__ne__" = some (some (.builtin "object.__ne__"))
  ob : PySem.W.mroIn K C (.type "object") = some true
theorem eqO (O : OwnM X.prog X.w X.K X.mg X.base CX C "__eq__" k ps sp) (N : NeM X.K C) (hr : Room k X.A) (hx : Passes CX X E0) : OpR X (compareOp .Eq) (rEqO X.K C sp) := by
  obtain ⟨f, fd, F, M, hi, hb⟩ := O.ex
  exact op_eqO F ⟨M.at_, hi, N.ne, N.ob⟩ hr hb hx
theorem neO (O : OwnM X.prog X.w X.K X.mg X.base CX C "__eq__" k ps sp) (N : NeM X.K C) (hr : Room (k + 1) X.A) (hx : Passes CX X E0) : OpR X (compareOp .NotEq) (rNeO X.K C sp) := by
  obtain ⟨f, fd, F, M, hi, hb⟩ := O.ex
  exact op_neO F ⟨M.at_, hi, N.ne, N.ob⟩ hr hb hx
theorem lenO (O : OwnM X.prog X.w X.K X.mg X.base CX C "__len__" k ps sp) (hr : Room (k + 1) X.A) (hx : Passes CX X E0) : CallR X (.builtin "len") (rLenO C sp) := by
  obtain ⟨f, fd, F, M, hi, hb⟩ := O.ex
  exact call_lenO F M.at_ hi hr hb hx
end
end L2

set_option Elab.async false
set_option maxRecDepth 100000
set_option maxHeartbeats 4000000
/-! kinds of plain values; their isinstance -/
namespace L2
open PySem PySem.Spec PyProof.Rows
inductive Knd | int | bool | none | str | list | tuple
  deriving DecidableEq
def Knd.name : Knd → String
  | .int => "int" | .bool => "bool" | .none => "NoneType" | .str => "str" | .list => "list" | .tuple => "tuple"
def KndOf (H : Hp) (v : V) : Knd → Prop
  | .int => ∃ n, v = .int n
  | .bool => ∃ b, v = .bl b
  | .none => v = .non
  | .str => ∃ s, v = .str s
  | .list => ∃ a xs, v = .ref a ∧ H a = some (.lst xs)
  | .tuple => ∃ a xs, v = .ref a ∧ H a = some (.tup xs)
def Knd.isInt : Knd → Bool | .int => true | .bool => true | _ => false
def Knd.isBool : Knd → Bool | .bool => true | _ => false
def Knd.isSeq : Knd → Bool | .list => true | .tuple => true | _ => false
def Knd.isTup : Knd → Bool | .tuple => true | _ => false
def Knd.isList : Knd → Bool | .list => true | _ => false
def Knd.isStr : Knd → Bool | .str => true | _ => false
section
variable {K : PySem.W.Frag} {H : Hp} {v : V} {k : Knd}
theorem knd_ty (h : KndOf H v k) : TyX K H v (.type k.name) := by
  cases k with
  | int => obtain ⟨n, rfl⟩ := h; exact .base (.int n)
  | bool => obtain ⟨n, rfl⟩ := h; exact .base (.bl n)
  | none => cases h; exact .base .non
  | str => obtain ⟨n, rfl⟩ := h; exact .base (.str n)
  | list => obtain ⟨a, xs, rfl, e⟩ := h; exact .base (.lst e)
  | tuple => obtain ⟨a, xs, rfl, e⟩ := h; exact .base (.tup e)
theorem knd_int : PySem.W.kitOne K (.type k.name) (.type "int") = some k.isInt := by cases k <;> exact kit_ty (by decide +kernel)
theorem knd_bool : PySem.W.kitOne K (.type k.name) (.type "bool") = some k.isBool := by cases k <;> exact kit_ty (by decide +kernel)
theorem knd_tup : PySem.W.kitOne K (.type k.name) (.type "tuple") = some k.isTup := by cases k <;> exact kit_ty (by decide +kernel)
theorem knd_list : PySem.W.kitOne K (.type k.name) (.type "list") = some k.isList := by cases k <;> exact kit_ty (by decide +kernel)
theorem knd_str : PySem.W.kitOne K (.type k.name) (.type "str") = some k.isStr := by cases k <;> exact kit_ty (by decide +kernel)
theorem knd_seq : PySem.W.kitAny K (.type k.name) [.type "list", .type "tuple"] = some k.isSeq := by
  cases k
  case list => exact kitAny_cons knd_list (by intro h; cases h) (fun _ => rfl)
  case tuple => exact kitAny_cons knd_list (fun _ => kitAny_cons knd_tup (by intro h; cases h) (fun _ => rfl)) (by intro h; cases h)
  all_goals exact kitAny_cons knd_list (fun _ => kitAny_cons knd_tup (fun _ => kitAny_nil) (by intro h; cases h)) (by intro h; cases h)
theorem KndOf.ext {H' : Hp} (h : KndOf H v k) (e : Ext H H') : KndOf H' v k := by
  cases k with
  | list => obtain ⟨a, xs, r, q⟩ := h; exact ⟨a, xs, r, e _ _ q⟩
  | tuple => obtain ⟨a, xs, r, q⟩ := h; exact ⟨a, xs, r, e _ _ q⟩
  | _ => exact h
theorem ki (n : Int) : KndOf H (.int n) .int := ⟨n, rfl⟩
theorem kb (n : Bool) : KndOf H (.bl n) .bool := ⟨n, rfl⟩
theorem kn : KndOf H .non .none := rfl
theorem ks (n : Str) : KndOf H (.str n) .str := ⟨n, rfl⟩
end
/-- a value that is an int from a to b -/
def betw (v : V) (a b : Int) : Bool := match v with
  | .int n => decide (a ≤ n) && decide (n ≤ b)
  | _ => false
theorem betw_int {n a b : Int} : betw (.int n) a b = (decide (a ≤ n) && decide (n ≤ b)) := rfl
theorem betw_not {H : Hp} {v : V} {k : Knd} {a b : Int} (h : KndOf H v k) (hk : (k.isInt && !k.isBool) = false) : betw v a b = false := by
  cases k with
  | int => cases hk
  | bool => obtain ⟨n, rfl⟩ := h; rfl
  | none => cases h; rfl
  | str => obtain ⟨n, rfl⟩ := h; rfl
  | list => obtain ⟨n, xs, rfl, _⟩ := h; rfl
  | tuple => obtain ⟨n, xs, rfl, _⟩ := h; rfl
theorem knd_yes {k : Knd} (h : (k.isInt && !k.isBool) = true) : k = .int := by cases k <;> first | rfl | cases h
/-! ### isinstance, read -/
section
variable {K : PySem.W.Frag} {σ : St} {H : Hp} {v : V} {k : Knd} {Q : VK} {te : TE}
theorem v_isI (hk : KndOf H v k) {b : Bool} {c : String} (e : PySem.W.kitOne K (.type k.name) (.type c) = some b) (q : Q (.bl b) H) : rIsi K [v, .ty c] H Q :=
  ⟨v, .ty c, .type k.name, .type c, b, rfl, .ty c, knd_ty hk, e, q⟩
end
end L2

set_option Elab.async false
set_option maxRecDepth 100000
set_option maxHeartbeats 4000000
namespace L2
open PySem PySem.Spec PyProof.Rows
section
variable {K : PySem.W.Frag} {C : Addr}
theorem no_ref (l : List String) : (l.map Value.type).contains (Value.ref C) = false := by
  induction l with
  | nil => rfl
  | cons a l ih =>
    rw [List.map_cons, List.contains_cons, ih]
    rfl
theorem sub_ty_ref {T : String} (h : (fastFind? T).isSome = true) : PySem.W.subIn K (.type T) (.ref C) = some false := by
  obtain ⟨r, hr⟩ := Option.isSome_iff_exists.mp h
  show (fastBuiltinMro T).map (·.contains (Value.ref C)) = some false
  unfold fastBuiltinMro
  rw [hr]
  show some ((r.mro.map Value.type).contains (Value.ref C)) = some false
  rw [no_ref]
theorem knd_find (k : Knd) : (fastFind? k.name).isSome = true := by cases k <;> decide +kernel
/-- all that is asked of an own plain class x at C -/
structure ClsX (K : PySem.W.Frag) (mg : Str → Option Value) (x : Str) (C : Addr) : Prop where
  gC : mg x = some (.ref C)
  cl : Cls K C
  ha : PySem.W.findIn K (.ref C) "__class__" = some (some (.builtin "object.__class__"))
  hn : PySem.W.specialIn K (.builtin "object.__class__") "__get__" = some (some (.builtin "getset_descriptor.__get__"))
  htk : PySem.W.takesIn K (.builtin "object.__class__") = some true
  hm : PySem.W.mroIn K C (.type "object") = some true
  ne : PySem.W.findIn K (.ref C) "__ne__" = some (some (.builtin "object.__ne__"))
  is : PySem.W.isClsIn K C = true
  ty : PySem.W.typeIn K (.ref C) = some (.type "type")
  tup : PySem.W.subIn K (.ref C) (.type "tuple") = some false
  lst : PySem.W.subIn K (.ref C) (.type "list") = some false
  int : PySem.W.subIn K (.ref C) (.type "int") = some false
  str : PySem.W.subIn K (.ref C) (.type "str") = some false
variable {mg : Str → Option Value} {x : Str}
theorem ClsX.neM (T : ClsX K mg x C) : NeM K C := ⟨T.ne, T.hm⟩
theorem ClsX.tyOf (T : ClsX K mg x C) {H : Hp} {a dx : Addr} {fs : List (Str × V)} (e : H a = some (.ins C dx fs)) : TyX K H (.ref a) (.ref C) := .base (.ins e T.cl T.ha T.hn T.htk T.hm)
theorem ClsX.me (_ : ClsX K mg x C) : PySem.W.kitOne K (.ref C) (.ref C) = some true := if_pos (beq_self_eq_true _)
theorem ClsX.nfMe (_ : ClsX K mg x C) : PySem.W.notFirst K C (.ref C) = true := by
  show (Value.ref C == Value.ref C || _) = true
  rw [beq_self_eq_true]
  rfl
theorem ClsX.kitB (T : ClsX K mg x C) {t : Value} {b : Bool} (h : PySem.W.subIn K t (.ref C) = some b) (hne : (t == .ref C) = false) : PySem.W.kitOne K t (.ref C) = some b := by
  have e : ((PySem.W.clsIn K C).isSome && PySem.W.typeIn K (.ref C) == some (.type "type")) = true := by
    have h1 : (PySem.W.clsIn K C).isSome = true := T.is
    rw [h1, T.ty]
    rfl
  show (if (t == Value.ref C) = true then some true else if ((PySem.W.clsIn K C).isSome && PySem.W.typeIn K (.ref C) == some (.type "type")) = true then PySem.W.subIn K t (.ref C) else none) = some b
  rw [hne, if_neg Bool.false_ne_true, if_pos e]
  exact h
theorem ClsX.kitK (T : ClsX K mg x C) (k : Knd) : PySem.W.kitOne K (.type k.name) (.ref C) = some false := T.kitB (sub_ty_ref (knd_find k)) rfl
theorem ClsX.nfK (_ : ClsX K mg x C) (k : Knd) : PySem.W.notFirst K C (.type k.name) = true := by
  show (Value.type k.name == Value.ref C || PySem.W.subIn K (.type k.name) (.ref C) == some false) = true
  rw [sub_ty_ref (knd_find k)]
  exact Bool.or_eq_true_iff.mpr (.inr (by decide))
theorem kit_meta {T : String} {b : Bool} (h : PySem.W.subIn K (.ref C) (.type T) = some b) (hm : PySem.W.kitMeta T = true) : PySem.W.kitOne K (.ref C) (.type T) = some b := by
  show (if (Value.ref C == Value.type T) = true then some true else if PySem.W.kitMeta T = true then PySem.W.subIn K (.ref C) (.type T) else none) = some b
  rw [show (Value.ref C == Value.type T) = false from rfl, if_neg Bool.false_ne_true, if_pos hm]
  exact h
theorem ClsX.kTup (T : ClsX K mg x C) : PySem.W.kitOne K (.ref C) (.type "tuple") = some false := kit_meta T.tup (by decide +kernel)
theorem ClsX.kInt (T : ClsX K mg x C) : PySem.W.kitOne K (.ref C) (.type "int") = some false := kit_meta T.int (by decide +kernel)
theorem ClsX.kLst (T : ClsX K mg x C) : PySem.W.kitOne K (.ref C) (.type "list") = some false := kit_meta T.lst (by decide +kernel)
theorem ClsX.kStr (T : ClsX K mg x C) : PySem.W.kitOne K (.ref C) (.type "str") = some false := kit_meta T.str (by decide +kernel)
end
/-! ### an own error's class, from what the top has written -/
section
variable {P : Program} {w : World} {K : PySem.W.Frag} {mg : Str → Option Value} {base : Heap} {x f : Str} {C : Addr}
/-- what k_is finds of the class -/
structure XAt (K : PySem.W.Frag) (mg : Str → Option Value) (x f : Str) (C : Addr) (st : Stmt) (qual : Str) : Prop where
  ox : OexC K C
  gC : mg x = some (.ref C)
  noA : PySem.W.findIn K (.ref C) f = some none
  ec : ExcC K C
  tI : ∃ fI, PySem.W.findIn K (.ref C) "__init__" = some (some (.ref fI)) ∧ PySem.W.typeIn K (.ref fI) = some (.type "function") ∧ ∃ fd, Fun K "__init__" qual st fI fd ∧ Binds K fd ["self", f] []
theorem XAt.cls {st : Stmt} {qual : Str} (T : XAt K mg x f C st qual) (h : ∀ fI fd, Fun K "__init__" qual st fI fd → FnOk P w K mg base CX0 1 fI fd ["self", f] (spXI C f)) : XCls P w K mg base x f C := by
  obtain ⟨fI, i1, i2, fd, F, b⟩ := T.tI
  exact ⟨T.ox, T.gC, T.noA, T.ec, fI, fd, i1, i2, h fI fd F, b⟩
end
/-! ### fields -/
section
theorem lk_put {f g : Str} {v : V} {fs : List (Str × V)} : List.lookup g ((f, v) :: fs) = if (g == f) = true then some v else List.lookup g fs := by
  simp only [List.lookup]
  split
  · rename_i h; rw [h, if_pos rfl]
  · rename_i h; rw [h, if_neg Bool.false_ne_true]
end
end L2

set_option Elab.async false
set_option maxRecDepth 100000
set_option maxHeartbeats 4000000
/-! plain data: lists and tuples of flat values, compared -/
namespace L2
open PySem PySem.Spec PyProof.Rows
def pd : V → PyData
  | .int i => .int i
  | .bl b => .bool b
  | .str s => .str s
  | _ => .none
/-- flat, its text (if it is one) within the model's signs -/
def Fl : V → Prop
  | .int _ => True
  | .bl _ => True
  | .non => True
  | .str s => PySem.PyData.canLay0 (.str s) = true
  | _ => False
section
variable {K : PySem.W.Frag} {H : Hp} {v u : V}
theorem dp_fl (h : Fl v) : Dp K H v (pd v) := by
  cases v <;> first | exact .int _ | exact .bl _ | exact .str _ | exact .non | exact h.elim
theorem dp_all : ∀ {vs : List V}, (∀ v ∈ vs, Fl v) → DpAll K H vs (vs.map pd)
  | [], _ => .nil
  | v :: vs, h => .cons (dp_fl (h v List.mem_cons_self)) (dp_all fun u hu => h u (List.mem_cons_of_mem _ hu))
theorem lay_fl (h : Fl v) : (pd v).canLay0 = true := by
  cases v <;> first | rfl | exact h | exact h.elim
theorem dep_fl : (pd v).depth = 0 := by cases v <;> rfl
theorem lay_all : ∀ {vs : List V}, (∀ v ∈ vs, Fl v) → PyData.canLayAll0 (vs.map pd) = true ∧ PyData.depthAll (vs.map pd) = 0
  | [], _ => ⟨rfl, rfl⟩
  | v :: vs, h => by
    obtain ⟨a, b⟩ := lay_all (vs := vs) fun u hu => h u (List.mem_cons_of_mem _ hu)
    constructor
    · show ((pd v).canLay0 && PyData.canLayAll0 (vs.map pd)) = true
      rw [lay_fl (h v List.mem_cons_self), a]
      rfl
    · show max (pd v).depth (PyData.depthAll (vs.map pd)) = 0
      rw [dep_fl, b]
      rfl
theorem shp_fl (h : Fl v) : SeqAt.shaped (pd v) = true := by
  show ((pd v).canLay0 && decide ((pd v).depth ≤ 64)) = true
  rw [lay_fl h, dep_fl]
  rfl
theorem shp_tup {vs : List V} (h : ∀ v ∈ vs, Fl v) : SeqAt.shaped (.tuple (vs.map pd)) = true := by
  obtain ⟨a, b⟩ := lay_all h
  show (PyData.canLayAll0 (vs.map pd) && decide (PyData.depthAll (vs.map pd) + 1 ≤ 64)) = true
  rw [a, b]
  rfl
theorem shp_lst {vs : List V} (h : ∀ v ∈ vs, Fl v) : SeqAt.shaped (.list (vs.map pd)) = true := by
  obtain ⟨a, b⟩ := lay_all h
  show (PyData.canLayAll0 (vs.map pd) && decide (PyData.depthAll (vs.map pd) + 1 ≤ 64)) = true
  rw [a, b]
  rfl
theorem fl_int (n : Int) : Fl (.int n) := trivial
theorem fl_ints {ns : List Int} : ∀ v ∈ ns.map V.int, Fl v := fun v hv => by
  obtain ⟨n, _, rfl⟩ := List.mem_map.mp hv
  trivial
theorem eqv_ints : ∀ (ns ms : List Int), PyData.eqvAll ((ns.map V.int).map pd) ((ms.map V.int).map pd) = decide (ns = ms)
  | [], [] => rfl
  | [], _ :: _ => rfl
  | _ :: _, [] => rfl
  | n :: ns, m :: ms => by
    show ((n == m) && PyData.eqvAll ((ns.map V.int).map pd) ((ms.map V.int).map pd)) = decide (n :: ns = m :: ms)
    rw [eqv_ints ns ms, Bool.eq_iff_iff]
    simp
/-- the same values are equal data -/
theorem eqv_same : ∀ {vs : List V}, (∀ v ∈ vs, Fl v) → PyData.eqvAll (vs.map pd) (vs.map pd) = true
  | [], _ => rfl
  | v :: vs, h => by
    show (PyData.eqv (pd v) (pd v) && PyData.eqvAll (vs.map pd) (vs.map pd)) = true
    rw [eqv_same (vs := vs) fun u hu => h u (List.mem_cons_of_mem _ hu), Bool.and_true]
    cases v <;> first | rfl | (show (_ == _) = true; exact beq_self_eq_true _)
/-- two tuples compared (op_eqD, op_neD): what is left -/
theorem eqD_tup {p q : Addr} {vs us : List V} {Q : VK} (hp : SqT K H p vs) (hq : SqT K H q us) (fv : ∀ v ∈ vs, Fl v) (fu : ∀ v ∈ us, Fl v) (h : Q (.bl (PyData.eqvAll (vs.map pd) (us.map pd))) H) : rEqD K (.ref p) (.ref q) H Q :=
  ⟨_, _, .tup hp (dp_all fv), .tup hq (dp_all fu), shp_tup fv, shp_tup fu, h⟩
theorem neD_tup {p q : Addr} {vs us : List V} {Q : VK} (hp : SqT K H p vs) (hq : SqT K H q us) (fv : ∀ v ∈ vs, Fl v) (fu : ∀ v ∈ us, Fl v) (h : Q (.bl (!PyData.eqvAll (vs.map pd) (us.map pd))) H) : rNeD K (.ref p) (.ref q) H Q :=
  ⟨_, _, .tup hp (dp_all fv), .tup hq (dp_all fu), shp_tup fv, shp_tup fu, h⟩
theorem eqD_lst {p q : Addr} {vs us : List V} {Q : VK} (hp : SqL K H p vs) (hq : SqL K H q us) (fv : ∀ v ∈ vs, Fl v) (fu : ∀ v ∈ us, Fl v) (h : Q (.bl (PyData.eqvAll (vs.map pd) (us.map pd))) H) : rEqD K (.ref p) (.ref q) H Q :=
  ⟨_, _, .lst hp (dp_all fv), .lst hq (dp_all fu), shp_lst fv, shp_lst fu, h⟩
theorem neD_lst {p q : Addr} {vs us : List V} {Q : VK} (hp : SqL K H p vs) (hq : SqL K H q us) (fv : ∀ v ∈ vs, Fl v) (fu : ∀ v ∈ us, Fl v) (h : Q (.bl (!PyData.eqvAll (vs.map pd) (us.map pd))) H) : rNeD K (.ref p) (.ref q) H Q :=
  ⟨_, _, .lst hp (dp_all fv), .lst hq (dp_all fu), shp_lst fv, shp_lst fu, h⟩
end
end L2

set_option Elab.async false
set_option maxRecDepth 100000
set_option maxHeartbeats 4000000
namespace L2
open PySem PySem.Spec PyProof.Rows
section
variable {X : Cx}
/-- range(j), kept -/
theorem cr_range1 : CallR X (.type "range") (fun vs H Q => ∃ j, vs = [V.int j] ∧ ∀ p, H p = none → Q (.ref p) (upd H p (.rng 0 j))) := by
  intro pins s σ H vs us Q I r h
  obtain ⟨j, rfl, q⟩ := h
  obtain ⟨u1, rfl, rj⟩ := vals1 r
  obtain ⟨t, rfl⟩ := rj
  refine call_range_1 ⟨.ref s.heap.objs.size, upd H s.heap.objs.size (.rng 0 j), I.laid (t' := s.toks + 1 + 1) (fun b o e => Heap.get?_push_of_some _ e) (Nat.le_refl _) ?_, rfl, q _ (I.hok.fresh (Nat.le_refl _))⟩
  exact ⟨s.toks, t, s.toks + 1, Heap.get?_push_size _ rfl⟩
/-- len of a range -/
theorem call_lenR : CallR X (.builtin "len") (fun xs H Q => ∃ a lo hi, xs = [.ref a] ∧ H a = some (.rng lo hi) ∧ (hi - lo).toNat < 2 ^ 62 ∧ Q (.int ((hi - lo).toNat : Int)) H) := by
  intro pins s σ H xs us Q I r h
  obtain ⟨a, lo, hi, rfl, ha, hz, q⟩ := h
  rw [Vals.ref1 r]
  obtain ⟨t, u, v, ho⟩ := I.hok a _ ha
  exact call_len_range (n := (hi - lo).toNat) ho (rangeSize_nat lo hi) (by omega) ⟨.int ((hi - lo).toNat : Int), H, I.tok _, ⟨_, rfl⟩, q⟩
/-- sum of a tuple of ints -/
def rSumT (K : PySem.W.Frag) : List V → Hp → VK → Prop := fun vs H Q => ∃ (a : Addr) (ns : List Int), vs = [V.ref a] ∧ SqT K H a (ns.map V.int) ∧ Q (.int ns.sum) H
theorem cr_sumT (hc : X.calm = true) : CallR X (.builtin "sum") (rSumT X.K) := by
  intro pins s σ H vs us Q I r h
  obtain ⟨a, ns, rfl, hs, q⟩ := h
  obtain ⟨its, rv, hl, _⟩ := I.tuple hs
  rw [Vals.ref1 r]
  have hi := rv.ints
  obtain ⟨xs, e⟩ := hi.allInts.items
  have hn : numsOf (intItems xs).toList = ns := by rw [← e]; exact hi.numsOf
  rw [nums_intItems] at hn
  rw [e] at hl
  refine PySem.W.ktm_sumG (I.ok.hd hc) hl fun h' tk t' hk => ?_
  rw [preSum_eq, List.take_of_length_le (by simp), hn]
  exact ⟨.int ns.sum, H, I.kept hk, ⟨_, rfl⟩, q⟩
end
end L2

set_option Elab.async false
set_option maxRecDepth 100000
set_option maxHeartbeats 4000000
namespace L2
open PySem PySem.Spec PyProof.Rows
/-- a list or tuple at p of the items xs -/
def Sq (H : Hp) (p : Addr) (xs : List V) : Prop := H p = some (.lst xs) ∨ H p = some (.tup xs)
section
variable {K : PySem.W.Frag} {H H' : Hp} {p : Addr} {xs : List V}
theorem Sq.k (h : Sq H p xs) : ∃ k, KndOf H (.ref p) k ∧ k.isSeq = true := by
  rcases h with h | h
  · exact ⟨.list, ⟨p, xs, rfl, h⟩, rfl⟩
  · exact ⟨.tuple, ⟨p, xs, rfl, h⟩, rfl⟩
theorem Sq.ext (h : Sq H p xs) (e : Ext H H') : Sq H' p xs := h.imp (e _ _) (e _ _)
theorem Sq.l (h : Sq H p xs) : SqL K H p xs ∨ SqT K H p xs := h.imp SqL.of SqT.of
theorem ext_mut {D : Addr} {o : HO} (e : Ext H H') (h : H D = none) : Ext H (upd H' D o) := fun a u ha => by
  rw [upd_ne (ne_of_none ha h)]
  exact e a u ha
theorem ext_none {D : Addr} (e : Ext H H') (h : H' D = none) : H D = none := by
  cases h1 : H D with
  | none => rfl
  | some o =>
    rw [e D o h1] at h
    cases h
end
section
variable {X : Cx} {tg : Expr}
/-- a list or a tuple is walked -/
def iSq (K : PySem.W.Frag) (tl : TE) : TI := fun σ H R => tl σ H fun x H1 => ∃ a, x = .ref a ∧ (((∃ xs, SqL K H1 a xs) ∧ R (Itl K a) H1) ∨ ((∃ xs, SqT K H1 a xs) ∧ R (Itt K a) H1))
theorem pi_sq {l : Expr} {tl : TE} (hl : PE X l tl) : PI X tg l (iSq X.K tl) := by
  refine ⟨fun pins s σ H R I h => ?_⟩
  refine thn (hl.run pins s σ H _ I h) fun v s1 ⟨x, H1, I1, r1, q1⟩ => ?_
  obtain ⟨a, e, q1⟩ := q1
  subst e
  cases r1
  rcases q1 with ⟨⟨xs, hq⟩, q⟩ | ⟨⟨xs, hq⟩, q⟩
  · obtain ⟨its, rv, p, hz⟩ := I1.list hq
    refine wpAny_pyIter_list p.isList ?_
    refine ⟨s1.heap.objs.size, [s1.heap.objs.size], _, _, H1, rfl, I1.kept (t' := s1.toks) fun b o e => Heap.get?_push_of_some _ e, turn_list a _, ⟨_, Heap.get?_push_size _ rfl, rfl, rfl⟩, fun b hb => ?_, q⟩
    have e : b = s1.heap.objs.size := by simpa using hb
    subst e
    exact I1.fpOk (Nat.le_refl _) (I1.hok.fresh (Nat.le_refl _))
  · obtain ⟨its, rv, p, hz⟩ := I1.tuple hq
    refine wpAny_pyIter_tuple (show s1.heap.IsTuple a its.toArray from p) ?_
    refine ⟨s1.heap.objs.size, [s1.heap.objs.size], _, _, H1, rfl, I1.kept (t' := s1.toks) fun b o e => Heap.get?_push_of_some _ e, turn_tuple a _, ⟨_, Heap.get?_push_size _ rfl, rfl, rfl⟩, fun b hb => ?_, q⟩
    have e : b = s1.heap.objs.size := by simpa using hb
    subst e
    exact I1.fpOk (Nat.le_refl _) (I1.hok.fresh (Nat.le_refl _))
end
section
variable {K : PySem.W.Frag} {σ : St} {H : Hp} {p : Addr} {xs : List V} {te : TE} {tt : TT} {j : Nat} {vs : List Nat} {Q : VK}
theorem take_snoc {α : Type} {l : List α} {i : Nat} {x : α} (h : l[i]? = some x) : l.take (i + 1) = l.take i ++ [x] := by
  rw [List.take_add_one, h]
  rfl
/-- [f(x) for x in xs if b(x)], what is tested and made only adding to the heap: the reading behind the source's own -/
theorem lc_sqR {Qd : Addr → Hp → Prop} {f : V → V} {b : V → Bool} (hx : Sq H p xs) (hz : xs.length < sizeLine) (hw : ∀ x, wipe ((wipe σ vs).set j (some x)) vs = wipe σ vs)
    (ht : ∀ x ∈ xs, ∀ H', Ext H H' → ∀ Q : Bool → Hp → Prop, (∀ H'', Ext H' H'' → Q (b x) H'') → tt ((wipe σ vs).set j (some x)) H' Q)
    (he : ∀ x ∈ xs, b x = true → ∀ H', Ext H H' → ∀ Q : VK, (∀ H'', Ext H' H'' → Q (f x) H'') → te ((wipe σ vs).set j (some x)) H' Q)
    (q : ∀ D H', H D = none → Ext H H' → H' D = some (.lst ((xs.filter b).map f)) → Qd D H') :
    ((∃ xs, SqL K H p xs) ∧ (fun J H1 => ∀ D, H1 D = none → ∃ W : Nat → Nat → Hp → Prop, (∃ m, W 0 m (upd H1 D (.lst []))) ∧ ∀ i m H, W i m H →
      (J.stop i H ∧ Qd D H) ∨ (J.go i H ∧ ∃ Nx : Hp → Prop, (∀ H', Nx H' → ∃ m', m' < m ∧ W (i + 1) m' H') ∧ ∀ x H', J.yld i H x H' → gName j x (wipe σ vs) H' fun σ2 H2 => wipe σ2 vs = wipe σ vs ∧ tt σ2 H2 fun b H3 =>
        if b = true then te σ2 H3 fun y H4 => ∃ acc, H4 D = some (.lst acc) ∧ acc.length < sizeLine ∧ Nx (upd H4 D (.lst (acc ++ [y]))) else Nx H3)) (Itl K p) H) ∨
    ((∃ xs, SqT K H p xs) ∧ (fun J H1 => ∀ D, H1 D = none → ∃ W : Nat → Nat → Hp → Prop, (∃ m, W 0 m (upd H1 D (.lst []))) ∧ ∀ i m H, W i m H →
      (J.stop i H ∧ Qd D H) ∨ (J.go i H ∧ ∃ Nx : Hp → Prop, (∀ H', Nx H' → ∃ m', m' < m ∧ W (i + 1) m' H') ∧ ∀ x H', J.yld i H x H' → gName j x (wipe σ vs) H' fun σ2 H2 => wipe σ2 vs = wipe σ vs ∧ tt σ2 H2 fun b H3 =>
        if b = true then te σ2 H3 fun y H4 => ∃ acc, H4 D = some (.lst acc) ∧ acc.length < sizeLine ∧ Nx (upd H4 D (.lst (acc ++ [y]))) else Nx H3)) (Itt K p) H) := by
  have turn : ∀ (D : Addr), H D = none → ∀ i x H', xs[i]? = some x → (Ext H H' ∧ H' D = some (.lst (((xs.take i).filter b).map f))) → gName j x (wipe σ vs) H' fun σ2 H2 => wipe σ2 vs = wipe σ vs ∧ tt σ2 H2 fun b' H3 =>
      if b' = true then te σ2 H3 fun y H4 => ∃ acc, H4 D = some (.lst acc) ∧ acc.length < sizeLine ∧ (Ext H (upd H4 D (.lst (acc ++ [y]))) ∧ upd H4 D (.lst (acc ++ [y])) D = some (.lst (((xs.take (i + 1)).filter b).map f))) else (Ext H H3 ∧ H3 D = some (.lst (((xs.take (i + 1)).filter b).map f))) := by
    intro D hD i x H' hi pv
    obtain ⟨e, hl⟩ := pv
    have hm : x ∈ xs := List.mem_of_getElem? hi
    refine ⟨hw x, ht x hm H' e _ fun H3 e3 => ?_⟩
    have hl3 : H3 D = some (.lst (((xs.take i).filter b).map f)) := e3 _ _ hl
    cases hb : b x with
    | true =>
      refine iteT (he x hm hb H3 (e.trans e3) _ fun H4 e4 => ⟨_, e4 _ _ hl3, ?_, ext_mut ((e.trans e3).trans e4) hD, ?_⟩)
      · rw [List.length_map]
        refine Nat.lt_of_le_of_lt (Nat.le_trans (List.length_filter_le _ _) ?_) hz
        exact List.length_take_le' _ _
      · rw [upd_same, take_snoc hi, List.filter_append, List.map_append]
        simp [hb]
    | false =>
      refine iteF ⟨e.trans e3, ?_⟩
      rw [hl3, take_snoc hi, List.filter_append, List.map_append]
      simp [hb]
  have fin : ∀ D, H D = none → ∀ H', (Ext H H' ∧ H' D = some (.lst (((xs.take xs.length).filter b).map f))) → Qd D H' := fun D hD H' pv => by
    rw [List.take_length] at pv
    exact q D H' hD pv.1 pv.2
  rcases hx with hx | hx
  · refine .inl ⟨⟨xs, SqL.of hx⟩, fun D hD => lc_list (xs := xs) (fun i H' => Ext H H' ∧ H' D = some (.lst (((xs.take i).filter b).map f))) ⟨Ext.upd hD, upd_same⟩ (fun i H' _ pv => SqL.of (pv.1 _ _ hx)) (fun i x H' hi pv => turn D hD i x H' hi pv) (fun H' pv => fin D hD H' pv)⟩
  · refine .inr ⟨⟨xs, SqT.of hx⟩, fun D hD => lc_tup (xs := xs) (fun i H' => Ext H H' ∧ H' D = some (.lst (((xs.take i).filter b).map f))) ⟨Ext.upd hD, upd_same⟩ (fun i H' _ pv => SqT.of (pv.1 _ _ hx)) (fun i x H' hi pv => turn D hD i x H' hi pv) (fun H' pv => fin D hD H' pv)⟩
end
theorem filter_all {α : Type} (l : List α) : l.filter (fun _ => true) = l := List.filter_eq_self.mpr fun _ _ => rfl
end L2

set_option Elab.async false
set_option maxRecDepth 100000
set_option maxHeartbeats 4000000
/-! enumerate over a list or a tuple -/
namespace PySem
open Sem (wp)
/-- the maker of enumerate, handed one thing whose iterator is told -/
theorem en1_meets {v : Value} {ob : Obj} {HP : Heap → Prop} (BG : Begins v ob HP) :
    Meets (Builtin.«enumerate.__new__» ⟨[.type "enumerate", v], []⟩) (fun _ RR sh => HP sh.heap ∧
      RR (.ok (.ret (.ref (sh.heap.push ob).objs.size)))
        { sh with heap := (sh.heap.push ob).push { cls := .type "enumerate", data := .fields #[.none, .bool false, .ref sh.heap.objs.size, rawInt 0, .none, .none] } }) :=
  .of_wp fun pr ww AA RR sh hh => by
    obtain ⟨hp, gg, dd, tk, os⟩ := sh
    obtain ⟨hh1, hh⟩ := hh
    have sub1 := sub_enumerate
    have begin1 : ∀ {A1 : Around} {E1 Q1 : Value → Shared → Prop}, Q1 (.ref hp.objs.size) ⟨hp.push ob, gg, dd, tk, os⟩ →
        wpAny (model pr ww) A1 (pyIter v) Q1 E1 ⟨hp, gg, dd, tk, os⟩ :=
      fun qq => BG.iter pr ww _ _ ⟨hp, gg, dd, tk, os⟩ _ hh1 qq
    wp_walk using begin1
    refine wpAny_stack_any fun sta => wpAny_pure ?_
    split
    · rename_i cc _ _ _ _ _
      cases (cc == Value.type "enumerate")
      all_goals
        wp_walk using begin1
        exact ⟨_, rfl, hh⟩
    · wp_walk using begin1
      exact ⟨_, rfl, hh⟩
section
variable {pr : Program} {ww : World} {AA : Around} {EE : Value → Shared → Prop} {sh : Shared}
theorem en1_call {v : Value} {ob : Obj} {HP : Heap → Prop} {QQ : Value → Shared → Prop} (BG : Begins v ob HP) (hh : HP sh.heap)
    (kk : ∀ h1, IsEnum h1 (sh.heap.objs.size + 1) sh.heap.objs.size 0 .none → h1.get? sh.heap.objs.size = some ob →
      (∀ x y, sh.heap.get? x = some y → h1.get? x = some y) → QQ (.ref (sh.heap.objs.size + 1)) { sh with heap := h1 }) :
    wpAny (model pr ww) AA (call (.type "enumerate") [v]) QQ EE sh := by
  refine callType_new F.called_enumerate (by decide) (F.typeCall_enumerate_1 _) (F.newCall_enumerate_1 _) (fun oo => F.args_object_init_2 oo _) F.entry_enumerate_new (en1_meets BG) ⟨hh, ?_⟩
  have sz : (sh.heap.push ob).objs.size = sh.heap.objs.size + 1 := Heap.size_push ..
  show _ ∧ _
  rw [sz]
  have en : IsEnum ((sh.heap.push ob).push { cls := .type "enumerate", data := .fields #[.none, .bool false, .ref sh.heap.objs.size, rawInt 0, .none, .none] })
      (sh.heap.objs.size + 1) sh.heap.objs.size 0 .none := by
    have qq := Heap.get?_push_size (sh.heap.push ob) (o := { cls := .type "enumerate", data := .fields #[.none, .bool false, .ref sh.heap.objs.size, rawInt 0, .none, .none] }) rfl
    rw [sz] at qq
    exact qq
  exact ⟨⟨_, en, rfl⟩, kk _ en (Heap.get?_push_of_some _ (Heap.get?_push_size _ BG.free)) fun x y hx => Heap.get?_push_of_some _ (Heap.get?_push_of_some _ hx)⟩
end
end PySem
namespace L2
open PySem PySem.Spec PyProof.Rows
/-- the tuple at a, each item in a new pair with its place -/
def Itet (K : PySem.W.Frag) (a : Addr) : It :=
  ⟨fun i H => ∃ xs : List V, SqT K H a xs ∧ i < xs.length,
    fun i H v H' => ∃ T x, v = .ref T ∧ H T = none ∧ H' = upd H T (.tup [.int (i : Nat), x]) ∧ ∀ xs, SqT K H a xs → xs[i]? = some x,
    fun i H => ∃ xs : List V, SqT K H a xs ∧ xs.length = i⟩
theorem turn_enT {P : Program} {w : World} {K : PySem.W.Frag} {elts : List Expr} {kk : Nat} {tpos : Pos} (a e it : Addr) (hea : e ≠ a) (hia : a ≠ it) :
    Turn P w K (.Tuple elts kk tpos) (Itet K a) [e, it] e (fun i h => (∃ old, IsEnum h e it ((i : Nat) : Int) old) ∧ h.IsTupleIter it a i ∧ e ≠ it) where
  mem := List.mem_cons_self
  obj := fun i h st b hb => by
    obtain ⟨⟨old, he⟩, ⟨o, ho, _, hd⟩, _⟩ := st
    rcases List.mem_cons.mp hb with z | z
    · subst z
      exact ⟨_, he, fun v q => nomatch q⟩
    · have z' := List.mem_singleton.mp z
      subst z'
      exact ⟨o, ho, fun v q => by rw [hd] at q; cases q⟩
  keep := fun i h h' st k => by
    obtain ⟨⟨old, he⟩, hi, hne⟩ := st
    exact ⟨⟨old, k e List.mem_cons_self _ he⟩, hi.at fun o q => k it (List.mem_cons_of_mem _ (List.mem_singleton.mpr rfl)) o q, hne⟩
  item := by
    intro X hP hw hK hc i pins s σ H E I hf st hg
    subst hP hw hK
    obtain ⟨⟨old, he⟩, hit, hne⟩ := st
    obtain ⟨xs, hq, hx⟩ := hg
    obtain ⟨its, rv, p, hz⟩ := I.tuple hq
    have hl := rv.length
    have hel : e < s.heap.objs.size := Heap.lt_size he
    have hil : it < s.heap.objs.size := by
      obtain ⟨_, q, _⟩ := hit
      exact Heap.lt_size q
    have D := Draws.tuple (prog := X.prog) (w := X.w) (A := X.A.in1) (show X.A.in1.handled = none from I.ok.hd hc) it a hia its.toArray
    refine wpAny_pyNext_enum_itemC D he (i := i) ⟨hit, p⟩ (by simp; omega) hne (by simp [hne, hea]) fun u h' tk hP ho hst' hT hsz hk => ?_
    have hu : its[i]? = some u := by simpa using hP
    obtain ⟨x, hxx⟩ : ∃ x, xs[i]? = some x := ⟨_, List.getElem?_eq_getElem hx⟩
    obtain ⟨u', hu', ru'⟩ := rv.get hxx
    have eu : u' = u := Option.some.inj (hu'.symm.trans hu)
    subst eu
    refine ⟨_, rfl, wpAny_letOwnedTupleGo_enum (s := { s with heap := h', toks := tk + 1 }) ho fun h2 he2 sb => ?_⟩
    have hT2 : h2.get? s.heap.objs.size = some { cls := .type "tuple", data := .seq #[.int i tk, u'] } := (sb.2 _ (Nat.ne_of_gt hel)).trans hT
    have new : ObjOk X.prog X.w (upd H s.heap.objs.size (.tup [.int (i : Nat), x])) h2 s.heap.objs.size (.tup [.int (i : Nat), x]) := by
      refine ⟨?_, [.int i tk, u'], .cons ⟨_, rfl⟩ (.cons ru' .nil), ⟨_, hT2, rfl, _, rfl⟩⟩
      show 2 ≤ sizeLine
      decide
    have I1 : Inv X pins σ (upd H s.heap.objs.size (.tup [.int (i : Nat), x])) { s with heap := h2, toks := tk + 1 } := by
      refine I.turnedNew (ch := [e, it]) (fun b ob hb q => ?_) hf (Nat.le_refl _) new
      have b1 : b ≠ e := fun z => hb (by simp [z])
      have b2 : b ≠ it := fun z => hb (by simp [z])
      exact (sb.2 b b1).trans (hk b ob b1 b2 q)
    refine ⟨.ref s.heap.objs.size, _, I1, rfl, ⟨_, x, rfl, I.hok.fresh (Nat.le_refl _), rfl, fun ys hy => ?_⟩, ⟨⟨u', ?_⟩, hst'.1.at fun o q => (sb.2 it (Ne.symm hne)).trans q, hne⟩, fun b hb => ?_⟩
    · obtain ⟨its2, rv2, p2, _⟩ := I.tuple hy
      rw [I.tuple_inj hy hq]
      exact hxx
    · have e1 : ((i + 1 : Nat) : Int) = (i : Int) + 1 := rfl
      rw [e1]
      exact he2
    · have hb' : b < s.heap.objs.size := by
        rcases List.mem_cons.mp hb with z | z
        · rw [z]
          exact hel
        · rw [List.mem_singleton.mp z]
          exact hil
      rw [upd_ne (Nat.ne_of_lt hb')]
      exact (hf b hb).1
  done := by
    intro X hP hw hK hc i pins s σ H E I hf st hg
    subst hP hw hK
    obtain ⟨⟨old, he⟩, hit, hne⟩ := st
    obtain ⟨xs, hq, hx⟩ := hg
    obtain ⟨its, rv, p, hz⟩ := I.tuple hq
    have hl := rv.length
    obtain ⟨f0, f1, f2, f3, f4, f5⟩ := hf it (List.mem_cons_of_mem _ (List.mem_singleton.mpr rfl))
    have D := Draws.tuple (prog := X.prog) (w := X.w) (A := X.A.in1) (show X.A.in1.handled = none from I.ok.hd hc) it a hia its.toArray
    have ei : i = its.toArray.size := by simp; omega
    refine wpAny_pyNext_enum_endD D he (by rw [← ei]; exact ⟨hit, p⟩) fun h' eb => ⟨rfl, ?_⟩
    exact I.turned (t' := s.toks) (fun b o hb q => eb b o hb q) f0 f1 f3 f4 f5
  self := fun A i s Q E st h => by
    obtain ⟨⟨_, he⟩, _⟩ := st
    exact wpAny_pyIter_enum he h
/-- a list or a tuple is walked with the places -/
def iEnSq (K : PySem.W.Frag) (ta : TA) : TI := fun σ H R => ta σ H fun vs H1 => ∃ a, vs = [.ref a] ∧ (((∃ xs, SqL K H1 a xs) ∧ R (Ite K a) H1) ∨ ((∃ xs, SqT K H1 a xs) ∧ R (Itet K a) H1))
theorem pi_enSq {X : Cx} {e : Expr} {ta : TA} {p pos tpos : Pos} {elts : List Expr} {kk : Nat} (hg : Gl X "enumerate") (hm : X.mg "enumerate" = none) (ha : PA X [e] ta) (hs : starEach [e] X.env = [(false, eval e X.env)] := by rfl) :
    PI X (.Tuple elts kk tpos) (.Call (.Name "enumerate" p) [e] [] pos) (iEnSq X.K ta) := by
  refine ⟨fun pins s σ H R I h => ?_⟩
  refine Call_ (ld_blt I hg hm boot_enumerate (PyProof.Rows.callWith_type1 (thn (ha.run pos pins s σ H _ I h) fun us s1 ⟨vs, H1, I1, r1, q1⟩ => ?_) hs rfl))
  obtain ⟨a, ex, q1⟩ := q1
  subst ex
  obtain rfl := Vals.ref1 r1
  have two : ∀ b, b ∈ [s1.heap.objs.size + 1, s1.heap.objs.size] → s1.heap.objs.size ≤ b := fun b hb => by
    rcases List.mem_cons.mp hb with z | z
    · rw [z]
      exact Nat.le_add_right _ _
    · rw [List.mem_singleton.mp z]
      exact Nat.le_refl _
  rcases q1 with ⟨⟨xs, hq⟩, q⟩ | ⟨⟨xs, hq⟩, q⟩
  · obtain ⟨its, rv, p', hz⟩ := I1.list hq
    refine en1_call (begins_list a its.toArray) p'.isList fun h' he hit hk => wpAny_pyIter_enum he ?_
    have I2 : Inv X pins σ H1 { s1 with heap := h' } := I1.kept (t' := s1.toks) hk
    refine ⟨s1.heap.objs.size + 1, [s1.heap.objs.size + 1, s1.heap.objs.size], _, _, H1, rfl, I2, turn_enum a (s1.heap.objs.size + 1) s1.heap.objs.size, ⟨⟨.none, he⟩, ⟨_, hit, rfl, rfl⟩, Nat.succ_ne_self _⟩, fun b hb => ?_, q⟩
    exact I1.fpOk (two b hb) (I1.hok.fresh (two b hb))
  · obtain ⟨its, rv, p', hz⟩ := I1.tuple hq
    have hlt : a < s1.heap.objs.size := by
      obtain ⟨o, ho, _⟩ := (show s1.heap.IsTuple a its.toArray from p')
      exact Heap.lt_size ho
    refine en1_call (begins_tuple a its.toArray) p' fun h' he hit hk => wpAny_pyIter_enum he ?_
    have I2 : Inv X pins σ H1 { s1 with heap := h' } := I1.kept (t' := s1.toks) hk
    refine ⟨s1.heap.objs.size + 1, [s1.heap.objs.size + 1, s1.heap.objs.size], _, _, H1, rfl, I2, turn_enT a (s1.heap.objs.size + 1) s1.heap.objs.size (Nat.ne_of_gt (Nat.lt_succ_of_lt hlt)) (Nat.ne_of_lt hlt), ⟨⟨.none, he⟩, ⟨_, hit, rfl, rfl⟩, Nat.succ_ne_self _⟩, fun b hb => ?_, q⟩
    exact I1.fpOk (two b hb) (I1.hok.fresh (two b hb))
section
variable {K : PySem.W.Frag} {a : Addr} {xs : List V}
theorem walk_enT : Walk (Itet K a) xs.length (fun H => SqT K H a xs) (YPair (fun i => some (.int (i : Nat))) (fun i => xs[i]?)) := by
  refine ⟨fun i _ hi q => ⟨xs, q, hi⟩, fun _ q => ⟨xs, q, rfl⟩, fun i H v H' _ q y => ?_⟩
  obtain ⟨T, x, e1, e2, e3, e4⟩ := y
  exact ⟨T, .int (i : Nat), x, e1, e2, e3, rfl, e4 xs q⟩
/-- the turns of an end: what goes on is N -/
def turnsOf (g : TG) (tb : TS) (D : Ends) (σ : St) (J : It) (H : Hp) : Prop := ∃ W : Nat → Nat → St → Hp → Prop, (∃ m, W 0 m σ H) ∧ ∀ i m σ H, W i m σ H →
  (J.stop i H ∧ D.nx σ H) ∨ (J.go i H ∧ ∃ N : St → Hp → Prop, (∀ σ' H', N σ' H' → ∃ m', m' < m ∧ W (i + 1) m' σ' H') ∧ ∀ x H', J.yld i H x H' → g x σ H' fun σ2 H2 => tb { D with nx := N, ct := N, bk := D.nx } σ2 H2)
theorem for_enSq {g : TG} {tb : TS} {D : Ends} {σ : St} {H : Hp} (hx : SqL K H a xs ∨ SqT K H a xs) (Pv : Nat → St → Hp → Prop) (h0 : Pv 0 σ H) (hE : ∀ i σ' H', Pv i σ' H' → Ext H H')
    (hs : ∀ i x σ' H' T, xs[i]? = some x → Pv i σ' H' → H' T = none → g (.ref T) σ' (upd H' T (.tup [.int (i : Nat), x])) fun σ2 H2 => tb { D with nx := Pv (i + 1), ct := Pv (i + 1), bk := D.nx } σ2 H2) (hd : ∀ σ' H', Pv xs.length σ' H' → D.nx σ' H') :
    ((∃ xs, SqL K H a xs) ∧ turnsOf g tb D σ (Ite K a) H) ∨ ((∃ xs, SqT K H a xs) ∧ turnsOf g tb D σ (Itet K a) H) := by
  have step : ∀ i x σ' H' H'', i < xs.length → Pv i σ' H' → YPair (fun i => some (V.int (i : Nat))) (fun i => xs[i]?) i H' x H'' → g x σ' H'' fun σ2 H2 => tb { D with nx := Pv (i + 1), ct := Pv (i + 1), bk := D.nx } σ2 H2 := by
    rintro i v σ' H' H'' hi pv ⟨T, x, y, rfl, hT, rfl, hx', hy⟩
    cases hx'
    exact hs i y σ' H' T hy pv hT
  rcases hx with hx | hx
  · exact .inl ⟨⟨xs, hx⟩, for_it (walk_enum (xs := xs)) Pv h0 (fun i σ' H' _ pv => hx.ext (hE i σ' H' pv)) step hd⟩
  · exact .inr ⟨⟨xs, hx⟩, for_it (walk_enT (xs := xs)) Pv h0 (fun i σ' H' _ pv => hx.ext (hE i σ' H' pv)) step hd⟩
end
end L2

set_option Elab.async false
set_option maxRecDepth 100000
set_option maxHeartbeats 4000000
/-! values told by the data that they hold -/
namespace L2
open PySem PySem.Spec PyProof.Rows
/-- the type's name -/
def tnD : PyData → String
  | .none => "NoneType" | .bool _ => "bool" | .int _ => "int" | .str _ => "str" | .list _ => "list" | .tuple _ => "tuple" | .dict _ => "dict"
def isIntD : PyData → Bool | .int _ => true | .bool _ => true | _ => false
def isBoolD : PyData → Bool | .bool _ => true | _ => false
def isTupD : PyData → Bool | .tuple _ => true | _ => false
def isListD : PyData → Bool | .list _ => true | _ => false
def isStrD : PyData → Bool | .str _ => true | _ => false
def isSeqD : PyData → Bool | .list _ => true | .tuple _ => true | _ => false
def isNoneD : PyData → Bool | .none => true | _ => false
/-- the int that it is, no truth -/
def betD (d : PyData) (a b : Int) : Bool := match d with
  | .int n => decide (a ≤ n) && decide (n ≤ b)
  | _ => false
def lenD : PyData → Nat | .list ds => ds.length | .tuple ds => ds.length | _ => 0
section
variable {K : PySem.W.Frag} {H H' : Hp} {v : V} {d : PyData}
theorem dp_ty (h : Dp K H v d) : TyX K H v (.type (tnD d)) := by
  cases h with
  | non => exact .base .non
  | bl b => exact .base (.bl b)
  | int i => exact .base (.int i)
  | str s => exact .base (.str s)
  | lst hs _ =>
    rcases hs with (h | ⟨o, h⟩) | ⟨o, its, n, e, c, _⟩
    · exact .base (.lst h)
    · exact .base (.frz h)
    · exact .kList e c
  | tup hs _ =>
    rcases hs with (h | ⟨o, h⟩) | ⟨o, its, n, e, c, _⟩
    · exact .base (.tup h)
    · exact .fTuple h
    · exact .kTuple e c
theorem kd_int : PySem.W.kitOne K (.type (tnD d)) (.type "int") = some (isIntD d) := by cases d <;> exact kit_ty (by dsimp only [tnD, isIntD]; decide +kernel)
theorem kd_bool : PySem.W.kitOne K (.type (tnD d)) (.type "bool") = some (isBoolD d) := by cases d <;> exact kit_ty (by dsimp only [tnD, isBoolD]; decide +kernel)
theorem kd_tup : PySem.W.kitOne K (.type (tnD d)) (.type "tuple") = some (isTupD d) := by cases d <;> exact kit_ty (by dsimp only [tnD, isTupD]; decide +kernel)
theorem kd_list : PySem.W.kitOne K (.type (tnD d)) (.type "list") = some (isListD d) := by cases d <;> exact kit_ty (by dsimp only [tnD, isListD]; decide +kernel)
theorem kd_seq : PySem.W.kitAny K (.type (tnD d)) [.type "list", .type "tuple"] = some (isSeqD d) := by
  unfold PySem.W.kitAny
  rw [kd_list]
  unfold PySem.W.kitAny
  rw [kd_tup]
  cases d <;> rfl
theorem kd_find : (fastFind? (tnD d)).isSome = true := by cases d <;> (dsimp only [tnD]; decide +kernel)
mutual
theorem dp_ext (e : Ext H H') : ∀ (d : PyData) (v : V), Dp K H v d → Dp K H' v d
  | .none, _, h => by cases h; exact .non
  | .bool _, _, h => by cases h; exact .bl _
  | .int _, _, h => by cases h; exact .int _
  | .str _, _, h => by cases h; exact .str _
  | .list ds, _, h => by
    cases h with
    | lst hs ha => exact .lst (hs.ext e) (dps_ext e ds _ ha)
  | .tuple ds, _, h => by
    cases h with
    | tup hs ha => exact .tup (hs.ext e) (dps_ext e ds _ ha)
  | .dict _, _, h => by cases h
theorem dps_ext (e : Ext H H') : ∀ (ds : List PyData) (vs : List V), DpAll K H vs ds → DpAll K H' vs ds
  | [], _, h => by cases h; exact .nil
  | d :: ds, _, h => by
    cases h with
    | cons h1 h2 => exact .cons (dp_ext e d _ h1) (dps_ext e ds _ h2)
end
theorem dps_len : ∀ {vs : List V} {ds : List PyData}, DpAll K H vs ds → vs.length = ds.length
  | [], _, h => by cases h; rfl
  | v :: vs, _, h => by
    cases h with
    | cons _ h2 => exact congrArg Nat.succ (dps_len h2)
theorem dps_get : ∀ {vs : List V} {ds : List PyData} {i : Nat} {v : V}, DpAll K H vs ds → vs[i]? = some v → ∃ d, ds[i]? = some d ∧ Dp K H v d
  | [], _, _, _, _, e => by cases e
  | v :: vs, _, i, _, h, e => by
    cases h with
    | @cons _ _ d ds h1 h2 =>
      cases i with
      | zero => cases e; exact ⟨d, rfl, h1⟩
      | succ i => exact dps_get (i := i) h2 e
theorem bet_int {n a b : Int} : betD (.int n) a b = (decide (a ≤ n) && decide (n ≤ b)) := rfl
theorem bet_not {a b : Int} (h : (isIntD d && !isBoolD d) = false) : betD d a b = false := by cases d <;> first | rfl | cases h
theorem bet_yes {a b : Int} (h : betD d a b = true) : ∃ n, d = .int n ∧ a ≤ n ∧ n ≤ b := by
  cases d <;> first | (rw [bet_int, Bool.and_eq_true, decide_eq_true_eq, decide_eq_true_eq] at h; exact ⟨_, rfl, h.1, h.2⟩) | cases h
theorem int_yes (h : (isIntD d && !isBoolD d) = true) : ∃ n, d = .int n := by cases d <;> first | exact ⟨_, rfl⟩ | cases h
theorem dp_int {n : Int} (h : Dp K H v (.int n)) : v = .int n := by cases h; rfl
theorem dp_seq (h : Dp K H v d) (hs : isSeqD d = true) : ∃ (a : Addr) (xs : List V) (ds : List PyData), v = .ref a ∧ (SqL K H a xs ∨ SqT K H a xs) ∧ DpAll K H xs ds ∧ (d = .list ds ∨ d = .tuple ds) := by
  cases h with
  | lst h ha => exact ⟨_, _, _, rfl, .inl h, ha, .inl rfl⟩
  | tup h ha => exact ⟨_, _, _, rfl, .inr h, ha, .inr rfl⟩
  | _ => cases hs
theorem dp_tup (h : Dp K H v d) (hs : isTupD d = true) : ∃ (a : Addr) (xs : List V) (ds : List PyData), v = .ref a ∧ SqT K H a xs ∧ DpAll K H xs ds ∧ d = .tuple ds := by
  cases h with
  | tup h ha => exact ⟨_, _, _, rfl, h, ha, rfl⟩
  | _ => cases hs
end
/-! ### own methods, called -/
section
variable {X : Cx} {CX : CXT} {m : Str} {k : Nat} {ps : List Str} {sp : Sp} {e o : Expr} {es : List Expr} {t : TA} {ta : TE} {pos apos : Pos} {C : Addr}
theorem pe_ownM0 {pl : Sem Bool} (O : OwnM X.prog X.w X.K X.mg X.base CX C m k ps sp) (he : PE X o ta) (c : Cls X.K C) (hr : Room k X.A) (hx : Passes CX X E0)
    (ht : eval (.Call (.Attribute o m apos) [] [] pos) X.env = (do
      let ov ← eval o X.env
      standAt apos.atName
      let (f, first) ← holding [ov] (getMethod ov m pl)
      callWith pos f first (backTo pos (starEach [] X.env)) (backToKw pos (keywordEach [] X.env))) := by rfl) :
    PE X (.Call (.Attribute o m apos) [] [] pos) (tMeth C m sp [] E0 ta tNil) := by
  obtain ⟨f, fd, F, M, _, hb⟩ := O.ex
  exact pe_meth0 he c M F hr hb .nil hx ht
theorem pe_ownM {pl : Sem Bool} (O : OwnM X.prog X.w X.K X.mg X.base CX C m k ps sp) (he : PE X o ta) (c : Cls X.K C) (hr : Room k X.A) (hx : Passes CX X E0) (ha : PA X (e :: es) t)
    (hst : starEach (e :: es) X.env = (false, eval e X.env) :: starEach es X.env := by rfl) (hpl : (backTo pos (starEach es X.env)).any (·.1) = false := by rfl)
    (ht : eval (.Call (.Attribute o m apos) (e :: es) [] pos) X.env = (do
      let ov ← eval o X.env
      standAt apos.atName
      let (f, first) ← holding [ov] (getMethod ov m pl)
      callWith pos f first (backTo pos (starEach (e :: es) X.env)) (backToKw pos (keywordEach [] X.env))) := by rfl) :
    PE X (.Call (.Attribute o m apos) (e :: es) [] pos) (tMeth C m sp [] E0 ta t) := by
  obtain ⟨f, fd, F, M, _, hb⟩ := O.ex
  exact pe_meth he c M F hr hb .nil hx ha hst hpl ht
end
end L2

set_option Elab.async false
set_option maxRecDepth 100000
set_option maxHeartbeats 4000000
/-! defs that are handed the error that the suite holds; classes made with defaults -/
namespace L2
open PySem PySem.Spec PyProof.Rows
section
variable {X : Cx}
/-- isinstance(e, c), e the held error, anywhere that it is pinned -/
theorem call_isEP {a D : Addr} {cls : Value} {d : Option Addr} {oe : Obj} (hpn : (a, oe) ∈ X.pn) (C : ExcC X.K D) (hz : Zc cls d oe) (hf : ∃ vs, oe.data = .fields vs) : CallR X (.builtin "isinstance") (rIsED X.K D a cls d) := by
  intro pins s σ H xs us Q I r h
  obtain ⟨ec0, hdd, c, cv, b, rfl, hcv, e, q⟩ := h
  subst ec0
  cases r with
  | cons rx rr =>
    cases rr with
    | cons rt rr =>
      cases rr
      cases rx
      have ec := hcv _ rt
      subst ec
      obtain ⟨hget, _⟩ := I.pin (a, oe) (List.mem_append.mpr (.inl hpn))
      obtain ⟨vs, hv⟩ := hf
      have J : ∃ od, PySem.W.InstAt s.heap a oe D od := by
        obtain ⟨oc, od, oda, osl⟩ := oe
        obtain ⟨h1, h2⟩ := hz
        dsimp only at h1 h2 hv
        subst h1 h2 hv
        cases od with
        | none => exact ⟨none, hget, rfl, rfl, trivial⟩
        | some dd =>
          obtain ⟨fs, hfs⟩ := hdd dd rfl
          obtain ⟨mA, hns, _⟩ := (show ObjOk X.prog X.w H s.heap dd (.xd fs) from I.hok dd _ hfs)
          obtain ⟨od, ho, _⟩ := lookIn_ns hns
          exact ⟨some od, hget, rfl, rfl, ho⟩
      exact PySem.W.kia_one (PySem.W.kitx_excD C) I.kIn J e (fun z => nomatch z) fun tk => ⟨.bl b, H, I.kept (t' := tk) fun _ _ z => z, rfl, q⟩
/-- e.f of it -/
theorem pe_xfP {a C : Addr} {oe : Obj} {cls : Value} {d : Option Addr} {e : Expr} {te : TE} {pos : Pos} {n : Str} (hpn : (a, oe) ∈ X.pn) (T : XfC X.K C) (hno : PySem.W.findIn X.K (.ref C) n = some none)
    (hz : Zc cls d oe) (hf : ∃ vs, oe.data = .fields vs) (he : PE X e te) (hb : attributeBase e n X.env (eval e X.env) = eval e X.env := by rfl) :
    PE X (.Attribute e n pos) (tXf a cls d C n te) := by
  refine ⟨fun pins s σ H Q I h => attr_of hb (thn (he.run pins s σ H _ I h) fun u s1 hh => ?_)⟩
  obtain ⟨x, H1, I1, rx, ex, ec, dd, fs, v, ed, ea, l, q⟩ := hh
  subst ex ec ed
  obtain rfl : u = Value.ref a := rx
  obtain ⟨hget, _⟩ := I1.pin (a, oe) (List.mem_append.mpr (.inl hpn))
  obtain ⟨vs, hv⟩ := hf
  obtain ⟨mA, hns, hr⟩ := (show ObjOk X.prog X.w H1 s1.heap dd (.xd fs) from I1.hok dd _ ea)
  obtain ⟨od, ho, hl⟩ := lookIn_ns hns
  obtain ⟨uu, hu, ru⟩ := RelO.some_of (v := v) (o := mA n) (by rw [← l]; exact hr n)
  have ncls : PySem.W.notCls oe = true := by
    unfold PySem.W.notCls
    rw [hv] <;> rfl
  have J : PySem.W.InstAt s1.heap a oe C (some od) := ⟨hget, hz.1, ncls, by rw [hz.2]; exact ho⟩
  have fo := PySem.W.findObj_own T.hdC hno (od := od) rfl (by rw [hl, hu])
  exact HandSPX.exc_get I1.kIn J T.ga T.gg T.exC fo (handed_of ru) ⟨v, H1, I1.tok _, ru, q⟩
end
end L2
namespace L2H
open PySem PySem.Spec PyProof.Rows L2 HotX
/-- such a def: its promise speaks of the held error, too -/
structure FnE (P : Program) (w : World) (K : PySem.W.Frag) (mg : Str → Option Value) (base : Heap) (CX : CXT) (k : Nat) (f : Addr) (fd : FuncData) (ps : List Str) (sp : Addr × Obj → Sp) : Prop where
  len : ∀ p vs H Q E, sp p vs H Q E → vs.length = ps.length
  run : ∀ (p : Addr × Obj) (AA : Around) (outer : List Env) (sh : Shared) (H : Hp) (args : Args) (us : List Value) (vs : List V) (Q : VK) (E : XK), RoomH k AA → PinOk outer H sh p → Env0 P w K mg base AA outer sh H →
    BindsTo sh fd args (ps.zip us) → Vals vs us → sp p vs H Q E → codeAny (model P w) AA (.call (.ref f) args) (CR CX outer P w H sh Q E) sh
section
variable {CX : CXT} {P : Program} {w : World} {K : PySem.W.Frag} {mg : Str → Option Value} {base : Heap} {k : Nat} {f : Addr} {fd : FuncData} {x qual : Str} {st : Stmt} {N ps : List Str} {sp : Addr × Obj → Sp}
theorem fnE_of (F : Fun K x qual st f fd) (S : FnScope N ps (defScope st)) (len : ∀ p vs H Q E, sp p vs H Q E → vs.length = ps.length)
    (hbody : ∀ (p : Addr × Obj) (cdv : Value) (AA : Around) (outer : List Env) (sh : Shared) (H : Hp) (vs : List V) (Q : VK) (E : XK), RoomH k (AA.deeper (envOfC qual (defScope st) sh.heap.objs.size f cdv)) → sp p vs H Q E →
      ∃ t, PSs (cxH CX P w K mg base N qual (defScope st) f cdv AA outer sh H E p) (defBody st) t ∧ t { nx := fun _ H' => Q .non H', rt := Q } (L2.start N vs) H) : FnE P w K mg base CX (k + 1) f fd ps sp := by
  obtain ⟨oc, od, kV, doc, pm, an, cdv, ct, osl, rfl, lk, hcd⟩ := F.ex
  refine ⟨len, fun p AA outer sh H args us vs Q E hr hpin e0 hb r hsp => ?_⟩
  have hl := len _ _ _ _ _ hsp
  have KX : K.In sh.heap := e0.mod.kin.keeps fun b o e => (e0.bs b o e).1
  have lim : sh.heap.NoLimit := e0.mod.nolimit.keeps fun b o e => (e0.bs b o e).1
  have binds : ∀ y ∈ ps.zip us, (defScope st).names.lookup y.1 = some .local ∨ ((defScope st).names.lookup y.1 = some .cell ∧ ((cellsFrom (sh.heap.objs.size + 1) (defScope st).names []).lookup y.1).isSome = true) := by
    rintro ⟨n, v⟩ hy
    rcases S.par n (List.of_mem_zip hy).1 with q | q
    · exact .inl q
    · exact .inr ⟨q, PySem.W.cellsFrom_some _ _ _ (.inl q)⟩
  refine codeAny_call_function hr.depth (KX _ _ lk) rfl S.co S.gen rfl (PySem.W.codeRec_of KX hcd) (hb _ _ _ _ ?_)
  refine wpAny_newFunctionEnv_cells S.kind binds fun env he s1 xx => ?_
  subst he
  refine ⟨lim.keeps xx.toInCall.keep, codeAny_func ?_⟩
  obtain ⟨t, ht, hq⟩ := hbody p cdv AA outer sh H vs Q E (hr.deeper _) hsp
  have I := inv_startH (CX := CX) (E := E) S hpin e0 hl r xx
  refine wpAny_mono (ht.run [] s1 (L2.start N vs) H _ I hq) (fun fl s' hs => ?_) fun _ _ hs => hs
  cases fl with
  | ret u =>
    obtain ⟨v, σ', H', J, rv, q⟩ := hs
    exact ⟨v, H', J.os, J.bare, J.base, J.hok, rv, q⟩
  | next =>
    obtain ⟨σ', H', J, q⟩ := hs
    exact ⟨V.non, H', J.os, J.bare, J.base, J.hok, rfl, q⟩
  | brk =>
    obtain ⟨_, _, _, q⟩ := hs
    exact q.elim
  | cont =>
    obtain ⟨_, _, _, q⟩ := hs
    exact q.elim
end
section
variable {X : Cx} {CX : CXT} {k : Nat} {f : Addr} {fd : FuncData} {ps : List Str} {sp : Addr × Obj → Sp} {x : Str} {q pos : Pos} {e : Expr} {es : List Expr} {t : TA} {p : Addr × Obj}
/-- f(e, ..) in the suite that holds p -/
theorem pe_callE (F : FnE X.prog X.w X.K X.mg X.base CX k f fd ps sp) (hr : RoomH k X.A) (hp : p ∈ X.pn) (hg : Gl X x) (hm : X.mg x = some (.ref f)) (hk : PySem.W.keepIn X.K (.ref f) = true) (hb : Binds X.K fd ps []) (hx : Passes CX X E0)
    (ha : PA X (e :: es) t) (hdb : (x == ("__debug__" : Str)) = false := by decide) (he : starEach (e :: es) X.env = (false, eval e X.env) :: starEach es X.env := by rfl) (hpl : (backTo pos (starEach es X.env)).any (·.1) = false := by rfl) :
    PE X (.Call (.Name x q) (e :: es) [] pos) (tCall (sp p) [] E0 t) := by
  refine ⟨fun pins s σ H Q I h => wpAny_Call_Name_kw (ld_glob I hg hm ?_ hdb)⟩
  refine PySem.W.callWith_K (h₀ := X.base) I.ok.mod.kin hk (thn (ha.run pos pins s σ H _ I h) fun us s1 ⟨vs, H1, I1, r, hsp⟩ => ⟨I1.kIn, ?_⟩) he hpl
  have hsp : sp p vs H1 Q E0 := by
    have z : sp p (vs ++ []) H1 Q E0 := hsp
    rwa [List.append_nil] at z
  have hl : us.length = ps.length := by
    rw [← r.length]
    exact F.len _ _ _ _ _ hsp
  have bd := hb s1 us I1.kIn (by rw [List.append_nil]; exact hl)
  rw [List.append_nil] at bd
  have P1 := I1.pin p (List.mem_append.mpr (.inl hp))
  have hpin : PinOk X.stack H1 s1 p := ⟨P1.1, P1.2.1, fun hm => (List.mem_cons.mp (I1.stkSub p.1 hm)).elim P1.2.2.1 P1.2.2.2.1, P1.2.2.2.2⟩
  refine wpAny_call (codeAny_mono (F.run p X.A X.stack s1 H1 ⟨us, []⟩ us vs Q E0 hr hpin I1.env0 bd r hsp) fun rr s' hq => ?_)
  match rr, hq with
  | .error ee, hq => exact hx pins σ H1 s1 ee s' I1 hq
  | .ok (.ret u), hq => exact I1.after hq
  | .ok .next, hq => exact hq.elim
  | .ok .brk, hq => exact hq.elim
  | .ok .cont, hq => exact hq.elim
end
end L2H
namespace L2
open PySem PySem.Spec PyProof.Rows
/-- a class of the top whose __init__ has defaults, dvs those that fill up -/
structure OwnCD (P : Program) (w : World) (K : PySem.W.Frag) (mg : Str → Option Value) (base : Heap) (CX : CXT) (x : Str) (C : Addr) (k : Nat) (ps : List Str) (sp : Sp) (dvs : List V) : Prop where
  ex : ∃ (f : Addr) (fd : FuncData) (ds : List Value), FnOk P w K mg base CX k f fd ps sp ∧ Mk K C f ∧ mg x = some (.ref C) ∧ Binds K fd ps ds ∧ Vals dvs ds
section
variable {X : Cx} {CX : CXT} {x : Str} {k : Nat} {ps : List Str} {sp : Sp} {e : Expr} {es : List Expr} {t : TA} {p pos : Pos} {C : Addr} {dvs : List V}
theorem pe_newD (O : OwnCD X.prog X.w X.K X.mg X.base CX x C k ps sp dvs) (hr : Room (k + 1) X.A) (hx : Passes CX X E0) (ha : PA X (e :: es) t) (hg : Gl X x := by rfl) (hdb : (x == ("__debug__" : Str)) = false := by decide)
    (he : starEach (e :: es) X.env = (false, eval e X.env) :: starEach es X.env := by rfl) (hpl : (backTo pos (starEach es X.env)).any (·.1) = false := by rfl) : PE X (.Call (.Name x p) (e :: es) [] pos) (tMake C sp dvs E0 t) := by
  obtain ⟨f, fd, ds, F, M, hm, hb, hv⟩ := O.ex
  exact pe_make M F hr hg hm hb hv hx ha hdb he hpl
end
end L2

set_option Elab.async false
set_option maxRecDepth 100000
set_option maxHeartbeats 4000000
/-! a op b op c op d -/
namespace L2
open PySem PySem.Spec PyProof.Rows
def tCh3 (r r' r2 : R2) (ta tb tc td : TE) : TE := fun σ H Q => ta σ H fun x H1 => tb σ H1 fun y H2 => r x y H2 fun z H3 => ∃ k, z = .bl k ∧
  (if k = true then tc σ H3 fun u H4 => r' y u H4 fun z' H5 => ∃ k', z' = .bl k' ∧ (if k' = true then td σ H5 fun v H6 => r2 u v H6 Q else Q (.bl false) H5) else Q (.bl false) H3)
section
variable {X : Cx} {a b c d : Expr} {pos : Pos} {ta tb tc td : TE} {op op' op2 : CmpOp} {r r' r2 : R2}
theorem pe_chain3 (ho : OpR X (compareOp op) r) (ho' : OpR X (compareOp op') r') (ho2 : OpR X (compareOp op2) r2) (ha : PE X a ta) (hb : PE X b tb) (hc : PE X c tc) (hd : PE X d td)
    (hm : lastMarks [op, op', op2] [b, c, d] = false := by with_unfolding_all rfl) : PE X (.Compare a [op, op', op2] [b, c, d] pos) (tCh3 r r' r2 ta tb tc td) := by
  refine ⟨fun pins s σ H Q I h => ?_⟩
  refine Compare_chain (thn (ha.run pins s σ H _ I h) fun v s1 ⟨x, H1, I1, r1, q1⟩ => chain_link (thn (hb.run pins s1 σ H1 _ I1 q1) fun u s2 ⟨y, H2, I2, r2', q2⟩ =>
    thn (ho pins s2 σ H2 x y v u _ I2 r1 r2' q2) fun e s3 ⟨z, H3, I3, r3, k, ez, q3⟩ => ?_)) hm
  subst ez
  cases r3
  refine wpAny_truthy_bool ?_
  cases k with
  | false => exact ite_ff ⟨.bl false, H3, I3, rfl, q3⟩
  | true =>
    refine ite_tt (chain_link (thn (hc.run pins s3 σ H3 _ I3 q3) fun u2 s4 ⟨z4, H4, I4, r4, q4⟩ => thn (ho' pins s4 σ H4 y z4 u u2 _ I4 r2' r4 q4) fun e5 s5 ⟨z5, H5, I5, r5, k5, ez5, q5⟩ => ?_))
    subst ez5
    cases r5
    refine wpAny_truthy_bool ?_
    cases k5 with
    | false => exact ite_ff ⟨.bl false, H5, I5, rfl, q5⟩
    | true => exact ite_tt (chain_last (thn (hd.run pins s5 σ H5 _ I5 q5) fun u6 s6 ⟨z6, H6, I6, r6, q6⟩ => ho2 pins s6 σ H6 z4 z6 u2 u6 Q I6 r4 r6 q6))
theorem pt_chain3 (ho : OpR X (compareOp op) r) (ho' : OpR X (compareOp op') r') (ho2 : OpR X (compareOp op2) r2) (ha : PE X a ta) (hb : PE X b tb) (hc : PE X c tc) (hd : PE X d td)
    (hm : lastMarks [op, op', op2] [b, c, d] = false := by with_unfolding_all rfl) : PT X (.Compare a [op, op', op2] [b, c, d] pos) (tTest (tCh3 r r' r2 ta tb tc td)) := by
  refine ⟨fun pins s σ H Q I h => ?_⟩
  refine isTrue_chain (thn (ha.run pins s σ H _ I h) fun v s1 ⟨x, H1, I1, r1, q1⟩ => test_link (thn (hb.run pins s1 σ H1 _ I1 q1) fun u s2 ⟨y, H2, I2, r2', q2⟩ =>
    thn (ho pins s2 σ H2 x y v u _ I2 r1 r2' q2) fun e s3 ⟨z, H3, I3, r3, k, ez, q3⟩ => ?_)) hm
  subst ez
  cases r3
  refine wpAny_truthy_bool ?_
  cases k with
  | false =>
    obtain ⟨k', e', q'⟩ := q3
    cases e'
    exact ite_ff ⟨H3, I3, q'⟩
  | true =>
    refine ite_tt (test_link (thn (hc.run pins s3 σ H3 _ I3 q3) fun u2 s4 ⟨z4, H4, I4, r4, q4⟩ => thn (ho' pins s4 σ H4 y z4 u u2 _ I4 r2' r4 q4) fun e5 s5 ⟨z5, H5, I5, r5, k5, ez5, q5⟩ => ?_))
    subst ez5
    cases r5
    refine wpAny_truthy_bool ?_
    cases k5 with
    | false =>
      obtain ⟨k', e', q'⟩ := q5
      cases e'
      exact ite_ff ⟨H5, I5, q'⟩
    | true =>
      refine ite_tt (test_last (thn (hd.run pins s5 σ H5 _ I5 q5) fun u6 s6 ⟨z6, H6, I6, r6, q6⟩ => thn (ho2 pins s6 σ H6 z4 z6 u2 u6 _ I6 r4 r6 q6) fun e7 s7 ⟨z7, H7, I7, r7, k7, ez7, q7⟩ => ?_))
      subst ez7
      cases r7
      exact wpAny_truthy_bool ⟨H7, I7, q7⟩
end
end L2
namespace L2
open PySem PySem.Spec PyProof.Rows
def numV : V → Bool | .int _ => true | _ => false
section
variable {K : PySem.W.Frag} {σ : St} {H : Hp} {p : Addr} {xs : List V} {te : TE} {tt : TT} {j : Nat} {vs : List Nat} {Q : VK} {v : V} {d : PyData}
theorem num_dp (h : Dp K H v d) : (isIntD d && !isBoolD d) = numV v := by cases h <;> rfl
theorem non_dp (h : Dp K H v d) : decide (v = .non) = isNoneD d := by cases h <;> simp [isNoneD]
/-- [f(x) for x in xs if b(x)] over a list or a tuple wherever it stands, what is tested and made only adding to the heap -/
theorem lc_sqG {Qd : Addr → Hp → Prop} {f : V → V} {b : V → Bool} (hx : SqL K H p xs ∨ SqT K H p xs) (hz : xs.length < sizeLine) (hw : ∀ x, wipe ((wipe σ vs).set j (some x)) vs = wipe σ vs)
    (ht : ∀ x ∈ xs, ∀ H', Ext H H' → ∀ Q : Bool → Hp → Prop, (∀ H'', Ext H' H'' → Q (b x) H'') → tt ((wipe σ vs).set j (some x)) H' Q)
    (he : ∀ x ∈ xs, b x = true → ∀ H', Ext H H' → ∀ Q : VK, (∀ H'', Ext H' H'' → Q (f x) H'') → te ((wipe σ vs).set j (some x)) H' Q)
    (q : ∀ D H', H D = none → Ext H H' → H' D = some (.lst ((xs.filter b).map f)) → Qd D H') :
    ((∃ xs, SqL K H p xs) ∧ (fun J H1 => ∀ D, H1 D = none → ∃ W : Nat → Nat → Hp → Prop, (∃ m, W 0 m (upd H1 D (.lst []))) ∧ ∀ i m H, W i m H →
      (J.stop i H ∧ Qd D H) ∨ (J.go i H ∧ ∃ Nx : Hp → Prop, (∀ H', Nx H' → ∃ m', m' < m ∧ W (i + 1) m' H') ∧ ∀ x H', J.yld i H x H' → gName j x (wipe σ vs) H' fun σ2 H2 => wipe σ2 vs = wipe σ vs ∧ tt σ2 H2 fun b H3 =>
        if b = true then te σ2 H3 fun y H4 => ∃ acc, H4 D = some (.lst acc) ∧ acc.length < sizeLine ∧ Nx (upd H4 D (.lst (acc ++ [y]))) else Nx H3)) (Itl K p) H) ∨
    ((∃ xs, SqT K H p xs) ∧ (fun J H1 => ∀ D, H1 D = none → ∃ W : Nat → Nat → Hp → Prop, (∃ m, W 0 m (upd H1 D (.lst []))) ∧ ∀ i m H, W i m H →
      (J.stop i H ∧ Qd D H) ∨ (J.go i H ∧ ∃ Nx : Hp → Prop, (∀ H', Nx H' → ∃ m', m' < m ∧ W (i + 1) m' H') ∧ ∀ x H', J.yld i H x H' → gName j x (wipe σ vs) H' fun σ2 H2 => wipe σ2 vs = wipe σ vs ∧ tt σ2 H2 fun b H3 =>
        if b = true then te σ2 H3 fun y H4 => ∃ acc, H4 D = some (.lst acc) ∧ acc.length < sizeLine ∧ Nx (upd H4 D (.lst (acc ++ [y]))) else Nx H3)) (Itt K p) H) := by
  have turn : ∀ (D : Addr), H D = none → ∀ i x H', xs[i]? = some x → (Ext H H' ∧ H' D = some (.lst (((xs.take i).filter b).map f))) → gName j x (wipe σ vs) H' fun σ2 H2 => wipe σ2 vs = wipe σ vs ∧ tt σ2 H2 fun b' H3 =>
      if b' = true then te σ2 H3 fun y H4 => ∃ acc, H4 D = some (.lst acc) ∧ acc.length < sizeLine ∧ (Ext H (upd H4 D (.lst (acc ++ [y]))) ∧ upd H4 D (.lst (acc ++ [y])) D = some (.lst (((xs.take (i + 1)).filter b).map f))) else (Ext H H3 ∧ H3 D = some (.lst (((xs.take (i + 1)).filter b).map f))) := by
    intro D hD i x H' hi pv
    obtain ⟨e, hl⟩ := pv
    have hm : x ∈ xs := List.mem_of_getElem? hi
    refine ⟨hw x, ht x hm H' e _ fun H3 e3 => ?_⟩
    have hl3 : H3 D = some (.lst (((xs.take i).filter b).map f)) := e3 _ _ hl
    cases hb : b x with
    | true =>
      refine iteT (he x hm hb H3 (e.trans e3) _ fun H4 e4 => ⟨_, e4 _ _ hl3, ?_, ext_mut ((e.trans e3).trans e4) hD, ?_⟩)
      · rw [List.length_map]
        refine Nat.lt_of_le_of_lt (Nat.le_trans (List.length_filter_le _ _) ?_) hz
        exact List.length_take_le' _ _
      · rw [upd_same, take_snoc hi, List.filter_append, List.map_append]
        simp [hb]
    | false =>
      refine iteF ⟨e.trans e3, ?_⟩
      rw [hl3, take_snoc hi, List.filter_append, List.map_append]
      simp [hb]
  have fin : ∀ D, H D = none → ∀ H', (Ext H H' ∧ H' D = some (.lst (((xs.take xs.length).filter b).map f))) → Qd D H' := fun D hD H' pv => by
    rw [List.take_length] at pv
    exact q D H' hD pv.1 pv.2
  rcases hx with hx | hx
  · refine .inl ⟨⟨xs, hx⟩, fun D hD => lc_list (xs := xs) (fun i H' => Ext H H' ∧ H' D = some (.lst (((xs.take i).filter b).map f))) ⟨Ext.upd hD, upd_same⟩ (fun i H' _ pv => hx.ext pv.1) (fun i x H' hi pv => turn D hD i x H' hi pv) (fun H' pv => fin D hD H' pv)⟩
  · refine .inr ⟨⟨xs, hx⟩, fun D hD => lc_tup (xs := xs) (fun i H' => Ext H H' ∧ H' D = some (.lst (((xs.take i).filter b).map f))) ⟨Ext.upd hD, upd_same⟩ (fun i H' _ pv => hx.ext pv.1) (fun i x H' hi pv => turn D hD i x H' hi pv) (fun H' pv => fin D hD H' pv)⟩
end
end L2

set_option Elab.async false
set_option maxRecDepth 100000
set_option maxHeartbeats 4000000
namespace L2
open PySem PySem.Spec PyProof.Rows
section
variable {X : Cx} {m : Str} {k : Nat} {ps : List Str} {sp : Sp} {e o : Expr} {es : List Expr} {t : TA} {ta : TE} {pos apos : Pos} {C : Addr} {W : WX}
/-- o.m(e, ..) that may raise; W is wished for what it raises -/
theorem pe_ownMS {pl : Sem Bool} (O : OwnM X.prog X.w X.K X.mg X.base (L2.CX X.prog X.w) C m k ps sp) (he : PE X o ta) (c : Cls X.K C) (hr : Room k X.A) (tk : Takes X W) (ha : PA X (e :: es) t)
    (hst : starEach (e :: es) X.env = (false, eval e X.env) :: starEach es X.env := by rfl) (hpl : (backTo pos (starEach es X.env)).any (·.1) = false := by rfl)
    (ht : eval (.Call (.Attribute o m apos) (e :: es) [] pos) X.env = (do
      let ov ← eval o X.env
      standAt apos.atName
      let (f, first) ← holding [ov] (getMethod ov m pl)
      callWith pos f first (backTo pos (starEach (e :: es) X.env)) (backToKw pos (keywordEach [] X.env))) := by rfl) :
    PE X (.Call (.Attribute o m apos) (e :: es) [] pos) (tMethSD C m sp [] (WE W) ta t) := by
  obtain ⟨f, fd, F, M, _, hb⟩ := O.ex
  exact pe_methSD he c M F hr hb .nil (fun σ => passAt tk σ) ha hst hpl ht
theorem PE.imp {ex : Expr} {t1 t2 : TE} (h : PE X ex t1) (i : ∀ σ H Q, t2 σ H Q → t1 σ H Q) : PE X ex t2 := ⟨fun pins s σ H Q I z => h.run pins s σ H Q I (i σ H Q z)⟩
end
end L2

set_option Elab.async false
set_option linter.all false
set_option maxRecDepth 100000
set_option maxHeartbeats 4000000
/-! tuples of own objects, compared by their own ==, whichever the answer -/
namespace GQ
open PySem PySem.SeqAt
open AutoSeq1 (wpAny_loadPart')
open MeetsSeq MeetsSeq2 MeetsSeq3 SeqRoads2
section
variable {prog : Program} {w : World} {A : Around} {R : Result → Shared → Prop}
/-- the places one by one: I goes on, J at the first two that differ -/
theorem tup_eqB (la lb : Addr) (xs ys : Array Value) (n n2 : Nat) (dd dd2 : Option Addr) (sl sl2 : Array (Option Value)) (hsz : xs.size = ys.size) (I : Nat → Shared → Prop) (J : Shared → Prop)
    (turn : ∀ i (h1 : i < xs.size) (h2 : i < ys.size) s, I i s → wpAny (model prog w) A.in1 (eqBool xs[i] ys[i]) (fun r s' => (r = true ∧ I (i + 1) s') ∨ (r = false ∧ J s')) (fun e s' => R (.error e) s') s)
    (finT : ∀ s, I xs.size s → R (.ok (.ret (.bool true))) s) (finF : ∀ s, J s → R (.ok (.ret (.bool false))) s) {s : Shared}
    (hla : s.heap.get? la = some { cls := .type "tuple", dict := dd, data := .seq xs n, slots := sl }) (hlb : s.heap.get? lb = some { cls := .type "tuple", dict := dd2, data := .seq ys n2, slots := sl2 }) (h : I 0 s) :
    wpAny (model prog w) A.in1 (Builtin.«tuple.__eq__» ⟨[.ref la, .ref lb], []⟩) (FinOf prog w A R) (fun e s' => R (.error e) s') s := by
  have f2 := AutoSeq1.sub_tuple_tuple
  have hZ : (xs.toList.zip ys.toList).length = xs.size := by simp [hsz]
  have h0 := h
  obtain ⟨hp, g, d, tk, os⟩ := s
  wp_walk using wpAny_loadPart' hla, wpAny_loadPart' hlb, wpAny_forIn_list _ (fun rest b s' => b.1 = none ∧ ∃ i, rest = (xs.toList.zip ys.toList).drop i ∧ i ≤ xs.size ∧ I i s') _
  case turn =>
    rintro ⟨y, x⟩ rest b s' ⟨hb', i, hz, hi, hI⟩
    have hlt : i < (xs.toList.zip ys.toList).length := by
      rcases Nat.lt_or_ge i (xs.toList.zip ys.toList).length with h' | h'
      · exact h'
      · rw [List.drop_of_length_le h'] at hz
        cases hz
    have h1 : i < xs.size := hZ ▸ hlt
    have h2 : i < ys.size := hsz ▸ h1
    rw [List.drop_eq_getElem_cons hlt] at hz
    injection hz with hyx hrest
    have hy : y = xs[i] := by
      have q := congrArg Prod.fst hyx
      simpa using q
    have hx : x = ys[i] := by
      have q := congrArg Prod.snd hyx
      simpa using q
    subst hy hx
    refine wpAny_bind (wpAny_mono (turn i h1 h2 s' hI) (fun r s2 q2 => ?_) fun _ _ x => x)
    rcases q2 with ⟨hr, q2⟩ | ⟨hr, q2⟩
    · subst hr
      wp_walk
      exact ⟨rfl, i + 1, hrest, h1, q2⟩
    · subst hr
      have hR : R (.ok (.ret (.bool false))) s2 := finF s2 q2
      wp_walk
      exact hR
  case fin =>
    rintro ⟨b1, b2⟩ s' ⟨hb', i, hz, hi, hI⟩
    simp only at hb'
    subst hb'
    have hge : xs.size ≤ i := by
      rcases Nat.lt_or_ge i (xs.toList.zip ys.toList).length with h' | h'
      · rw [List.drop_eq_getElem_cons h'] at hz
        cases hz
      · exact hZ ▸ h'
    have hi' : i = xs.size := by omega
    have hR : R (.ok (.ret (.bool true))) s' := finT s' (hi' ▸ hI)
    wp_walk
    simpa [Builtin.Tuple.tupleCompareSizes, hsz] using hR
  case h =>
    exact ⟨rfl, 0, rfl, Nat.zero_le _, h0⟩
/-- the same for != -/
theorem tup_neB (la lb : Addr) (xs ys : Array Value) (n n2 : Nat) (dd dd2 : Option Addr) (sl sl2 : Array (Option Value)) (hsz : xs.size = ys.size) (I : Nat → Shared → Prop) (J : Shared → Prop)
    (turn : ∀ i (h1 : i < xs.size) (h2 : i < ys.size) s, I i s → wpAny (model prog w) A.in1 (eqBool xs[i] ys[i]) (fun r s' => (r = true ∧ I (i + 1) s') ∨ (r = false ∧ J s')) (fun e s' => R (.error e) s') s)
    (finT : ∀ s, I xs.size s → R (.ok (.ret (.bool false))) s) (finF : ∀ s, J s → R (.ok (.ret (.bool true))) s) {s : Shared}
    (hla : s.heap.get? la = some { cls := .type "tuple", dict := dd, data := .seq xs n, slots := sl }) (hlb : s.heap.get? lb = some { cls := .type "tuple", dict := dd2, data := .seq ys n2, slots := sl2 }) (h : I 0 s) :
    wpAny (model prog w) A.in1 (Builtin.«tuple.__ne__» ⟨[.ref la, .ref lb], []⟩) (FinOf prog w A R) (fun e s' => R (.error e) s') s := by
  have f2 := AutoSeq1.sub_tuple_tuple
  have hZ : (xs.toList.zip ys.toList).length = xs.size := by simp [hsz]
  have h0 := h
  obtain ⟨hp, g, d, tk, os⟩ := s
  wp_walk using wpAny_loadPart' hla, wpAny_loadPart' hlb, wpAny_forIn_list _ (fun rest b s' => b.1 = none ∧ ∃ i, rest = (xs.toList.zip ys.toList).drop i ∧ i ≤ xs.size ∧ I i s') _
  case turn =>
    rintro ⟨y, x⟩ rest b s' ⟨hb', i, hz, hi, hI⟩
    have hlt : i < (xs.toList.zip ys.toList).length := by
      rcases Nat.lt_or_ge i (xs.toList.zip ys.toList).length with h' | h'
      · exact h'
      · rw [List.drop_of_length_le h'] at hz
        cases hz
    have h1 : i < xs.size := hZ ▸ hlt
    have h2 : i < ys.size := hsz ▸ h1
    rw [List.drop_eq_getElem_cons hlt] at hz
    injection hz with hyx hrest
    have hy : y = xs[i] := by
      have q := congrArg Prod.fst hyx
      simpa using q
    have hx : x = ys[i] := by
      have q := congrArg Prod.snd hyx
      simpa using q
    subst hy hx
    refine wpAny_bind (wpAny_mono (turn i h1 h2 s' hI) (fun r s2 q2 => ?_) fun _ _ x => x)
    rcases q2 with ⟨hr, q2⟩ | ⟨hr, q2⟩
    · subst hr
      wp_walk
      exact ⟨rfl, i + 1, hrest, h1, q2⟩
    · subst hr
      have hR : R (.ok (.ret (.bool true))) s2 := finF s2 q2
      wp_walk
      exact hR
  case fin =>
    rintro ⟨b1, b2⟩ s' ⟨hb', i, hz, hi, hI⟩
    simp only at hb'
    subst hb'
    have hge : xs.size ≤ i := by
      rcases Nat.lt_or_ge i (xs.toList.zip ys.toList).length with h' | h'
      · rw [List.drop_eq_getElem_cons h'] at hz
        cases hz
      · exact hZ ▸ h'
    have hi' : i = xs.size := by omega
    have hR : R (.ok (.ret (.bool false))) s' := finT s' (hi' ▸ hI)
    wp_walk
    simpa [Builtin.Tuple.tupleCompareSizes, bne, hsz] using hR
  case h =>
    exact ⟨rfl, 0, rfl, Nat.zero_le _, h0⟩
end
end GQ
namespace GQ
open PySem PySem.SeqAt
section
variable {prog : Program} {w : World} {A : Around} {E : Value → Shared → Prop} {s : Shared}
theorem rc_tupB {la lb : Addr} {xs ys : Array Value} {Q : Value → Shared → Prop} (hsz : xs.size = ys.size) (hu : A.units < cLine) (I : Nat → Shared → Prop) (J : Shared → Prop) (hla : s.heap.IsTuple la xs) (hlb : s.heap.IsTuple lb ys)
    (turn : ∀ i (h1 : i < xs.size) (h2 : i < ys.size) s, I i s → wpAny (model prog w) A.in1 (eqBool xs[i] ys[i]) (fun r s' => (r = true ∧ I (i + 1) s') ∨ (r = false ∧ J s')) E s)
    (finT : ∀ s, I xs.size s → Q (.bool true) s) (finF : ∀ s, J s → Q (.bool false) s) (h : I 0 s) : wpAny (model prog w) A (richCompare .Eq (.ref la) (.ref lb)) Q E s := by
  obtain ⟨⟨cls, dd, data, sl⟩, ho, hc, n, hd⟩ := id hla
  obtain ⟨⟨cls2, dd2, data2, sl2⟩, ho2, hc2, n2, hd2⟩ := id hlb
  simp only at hc hd hc2 hd2
  subst hc hd hc2 hd2
  refine wpAny_richCompare_same_room (op := .Eq) ⟨_, ho, rfl⟩ ⟨_, ho2, rfl⟩ F.slot_tuple_eq (call_here F.slot_tuple_eq ⟨_, ho, rfl⟩ F.entry_tuple_eq (F.args_tuple_eq_2 _ _) ?_) hu
  exact tup_eqB (R := wants (fun v s' => v ≠ .notImplemented ∧ Q v s') E) la lb xs ys n n2 dd dd2 sl sl2 hsz I J turn (fun s' q => ⟨(fun x => nomatch x), finT s' q⟩) (fun s' q => ⟨(fun x => nomatch x), finF s' q⟩) ho ho2 h
theorem rc_tupNB {la lb : Addr} {xs ys : Array Value} {Q : Value → Shared → Prop} (hsz : xs.size = ys.size) (hu : A.units < cLine) (I : Nat → Shared → Prop) (J : Shared → Prop) (hla : s.heap.IsTuple la xs) (hlb : s.heap.IsTuple lb ys)
    (turn : ∀ i (h1 : i < xs.size) (h2 : i < ys.size) s, I i s → wpAny (model prog w) A.in1 (eqBool xs[i] ys[i]) (fun r s' => (r = true ∧ I (i + 1) s') ∨ (r = false ∧ J s')) E s)
    (finT : ∀ s, I xs.size s → Q (.bool false) s) (finF : ∀ s, J s → Q (.bool true) s) (h : I 0 s) : wpAny (model prog w) A (richCompare .NotEq (.ref la) (.ref lb)) Q E s := by
  obtain ⟨⟨cls, dd, data, sl⟩, ho, hc, n, hd⟩ := id hla
  obtain ⟨⟨cls2, dd2, data2, sl2⟩, ho2, hc2, n2, hd2⟩ := id hlb
  simp only at hc hd hc2 hd2
  subst hc hd hc2 hd2
  refine wpAny_richCompare_same_room (op := .NotEq) ⟨_, ho, rfl⟩ ⟨_, ho2, rfl⟩ F.slot_tuple_ne (call_here F.slot_tuple_ne ⟨_, ho, rfl⟩ F.entry_tuple_ne (F.args_tuple_ne_2 _ _) ?_) hu
  exact tup_neB (R := wants (fun v s' => v ≠ .notImplemented ∧ Q v s') E) la lb xs ys n n2 dd dd2 sl sl2 hsz I J turn (fun s' q => ⟨(fun x => nomatch x), finT s' q⟩) (fun s' q => ⟨(fun x => nomatch x), finF s' q⟩) ho ho2 h
end
end GQ
namespace L2
open PySem PySem.Spec PyProof.Rows
/-- how two values compare, by the abstract heap -/
abbrev EqvB := V → V → Hp → Bool → Prop
def MonB (D : EqvB) : Prop := ∀ x y H H' k, Ext H H' → D x y H k → D x y H' k
def EqB (X : Cx) (n : Nat) (D : EqvB) : Prop :=
  ∀ (A : Around) (pins : List (Addr × Obj)) (s : Shared) (σ : St) (H : Hp) (x y : V) (u v : Value) (k : Bool), Sub X n A → Inv X pins σ H s → RelV x u → RelV y v → D x y H k →
    wpAny (model X.prog X.w) A (eqBool u v) (fun r s' => r = k ∧ ∃ H', Inv X pins σ H' s' ∧ Ext H H') X.xe s
def RcB (X : Cx) (n : Nat) (D : EqvB) : Prop :=
  ∀ (A : Around) (pins : List (Addr × Obj)) (s : Shared) (σ : St) (H : Hp) (x y : V) (u v : Value) (k : Bool), Sub X n A → Inv X pins σ H s → RelV x u → RelV y v → D x y H k →
    wpAny (model X.prog X.w) A (richCompare .Eq u v) (fun r s' => r = .bool k ∧ ∃ H', Inv X pins σ H' s' ∧ Ext H H') X.xe s
section
variable {X : Cx} {n : Nat} {D : EqvB}
/-- instances of the class at C -/
def DInsB (C : Addr) (R : Addr → Addr → Hp → Bool → Prop) : EqvB := fun x y H k => ∃ a b dx dy fs gs, x = .ref a ∧ y = .ref b ∧ H a = some (.ins C dx fs) ∧ H b = some (.ins C dy gs) ∧ R a b H k
def spEqB (R : Addr → Addr → Hp → Bool → Prop) : Sp := fun vs H Q _ => ∃ a b k, vs = [.ref a, .ref b] ∧ R a b H k ∧ ∀ H', Ext H H' → Q (.bl k) H'
theorem rcB_ins {CX : CXT} {C f : Addr} {fd : FuncData} {ps : List Str} {R : Addr → Addr → Hp → Bool → Prop} {E : XK} (F : FnOk X.prog X.w X.K X.mg X.base CX n f fd ps (spEqB R))
    (hs : PySem.W.findIn X.K (.ref C) "__eq__" = some (some (.ref f))) (hf : PySem.W.isFn X.K (.ref f) = true) (hb : Binds X.K fd ps []) (hx : Passes CX X E) : RcB X n (DInsB C R) := by
  intro A pins s σ H x y u v k sb I rx ry d
  obtain ⟨a, b, dx, dy, fs, gs, rfl, rfl, ha, hb', hr⟩ := d
  cases rx
  cases ry
  obtain ⟨mA, J, _⟩ := ins_get I.hok ha
  obtain ⟨mB, J', _⟩ := ins_get I.hok hb'
  obtain ⟨od, J, _⟩ := J.look
  obtain ⟨od', J', _⟩ := J'.look
  obtain ⟨m, hF⟩ := I.fr
  refine PySem.W.cmp_K (op := .Eq) (tb := .ref C) sb.room.units0 hF I.ok.mod.kin J J'.type (by simp [PySem.W.notFirst]) hs hf ?_
  have hsp : spEqB R [.ref a, .ref b] H (fun v H' => v = .bl k ∧ Ext H H') E := ⟨a, b, k, rfl, hr, fun H' e => ⟨rfl, e⟩⟩
  have e1 := I.env0
  have e0 : Env0 X.prog X.w X.K X.mg X.base A X.stack s H := ⟨by rw [sb.fr]; exact e1.frames, e1.mod, e1.bs, e1.bsz, e1.funs, e1.frf, e1.hok, e1.bare⟩
  have hl := F.len _ _ _ _ hsp
  have bd := hb s [.ref a, .ref b] I.kIn (by simpa using hl)
  have bd' : BindsTo s fd ⟨[.ref a, .ref b], []⟩ (ps.zip [.ref a, .ref b]) := by simpa using bd
  refine wpAny_call (codeAny_mono (F.run A X.stack s H ⟨[.ref a, .ref b], []⟩ [.ref a, .ref b] [.ref a, .ref b] _ E sb.room e0 bd' (.cons rfl (.cons rfl .nil)) hsp) fun r s' hq => ?_)
  match r, hq with
  | .error e, hq => exact hx pins σ H s e s' I hq
  | .ok (.ret z), hq =>
    obtain ⟨zv, H', I', rz, ez, ex⟩ := I.after hq
    subst ez
    cases rz
    exact ⟨rfl, H', I', ex⟩
  | .ok .next, hq => exact hq.elim
  | .ok .brk, hq => exact hq.elim
  | .ok .cont, hq => exact hq.elim
/-- within a tuple: the same object is equal to itself -/
theorem RcB.eqB (h : RcB X n D) (hr : ∀ x y H k, D x y H k → ∃ a b, x = .ref a ∧ y = .ref b ∧ (a = b → k = true)) : EqB X n D := by
  intro A pins s σ H x y u v k sb I rx ry d
  obtain ⟨a, b, rfl, rfl, hk⟩ := hr _ _ _ _ d
  cases rx
  cases ry
  by_cases hab : a = b
  · have hk' := hk hab
    subst hab hk'
    exact SeqAt.EqAt.same (A := A) (s := s) (.ref a) X.prog X.w X.xe _ ⟨rfl, H, I, Ext.rfl'⟩
  · refine GQ.eqBool_refG hab (wpAny_mono (h A pins s σ H (.ref a) (.ref b) _ _ k sb I rfl rfl d) (fun r s' q => ?_) fun _ _ x => x)
    obtain ⟨hr', q⟩ := q
    exact ⟨k, hr', rfl, q⟩
/-- tuples of one length, place by place; ks the answers -/
def DTupB (K : PySem.W.Frag) (D : EqvB) : EqvB := fun x y H k => ∃ (a b : Addr) (xs ys : List V) (ks : List Bool), x = .ref a ∧ y = .ref b ∧ SqT K H a xs ∧ SqT K H b ys ∧ xs.length = ys.length ∧ ks.length = xs.length ∧
  (∀ (i : Nat) x y c, xs[i]? = some x → ys[i]? = some y → ks[i]? = some c → D x y H c) ∧ k = ks.all id
theorem all_take {ks : List Bool} {i : Nat} (h : ∀ j, j < i → ks[j]? = some true) (hi : ks.length ≤ i) : ks.all id = true := by
  rw [List.all_eq_true]
  intro c hc
  obtain ⟨j, hj⟩ := List.mem_iff_getElem?.mp hc
  have hjl := (List.getElem?_eq_some_iff.mp hj).1
  have q := h j (Nat.lt_of_lt_of_le hjl hi)
  rw [hj] at q
  cases q
  rfl
theorem rcB_tup (hD : MonB D) (h : EqB X n D) : RcB X (n + 1) (DTupB X.K D) := by
  intro A pins s σ H x y u v k sb I rx ry d
  obtain ⟨a, b, xs, ys, ks, rfl, rfl, ha, hb, hlen, hks, hp, rfl⟩ := d
  cases rx
  cases ry
  obtain ⟨its, r, e, z⟩ := I.tuple ha
  obtain ⟨its2, r2, e2, z2⟩ := I.tuple hb
  have l1 := r.length
  have l2 := r2.length
  have hsz : its.toArray.size = its2.toArray.size := by rw [List.size_toArray, List.size_toArray, ← l1, ← l2]; exact hlen
  refine GQ.rc_tupB hsz sb.room.units0 (fun i s' => (∃ H', Inv X pins σ H' s' ∧ Ext H H') ∧ ∀ j, j < i → ks[j]? = some true) (fun s' => (∃ H', Inv X pins σ H' s' ∧ Ext H H') ∧ ks.all id = false) e e2 (fun i h1 h2 s' q => ?_) (fun s' q => ?_) (fun s' q => ?_) ⟨⟨H, I, Ext.rfl'⟩, fun j hj => absurd hj (Nat.not_lt_zero _)⟩
  · obtain ⟨⟨H1, I1, e1⟩, hk⟩ := q
    have h1' : i < its.length := by simpa using h1
    have h2' : i < its2.length := by simpa using h2
    have g1 : its[i]? = some its.toArray[i] := by rw [List.getElem?_eq_getElem h1'] <;> simp
    have g2 : its2[i]? = some its2.toArray[i] := by rw [List.getElem?_eq_getElem h2'] <;> simp
    have k1 : i < xs.length := by omega
    have k2 : i < ys.length := by omega
    have k3 : i < ks.length := by omega
    obtain ⟨uu, hu, ru⟩ := r.get (List.getElem?_eq_getElem k1)
    obtain ⟨vv, hv, rv⟩ := r2.get (List.getElem?_eq_getElem k2)
    rw [g1] at hu
    rw [g2] at hv
    rw [Option.some.inj hu, Option.some.inj hv]
    refine wpAny_mono (h A.in1 pins s' σ H1 _ _ uu vv ks[i] sb.in1 I1 ru rv (hD _ _ _ _ _ e1 (hp i _ _ _ (List.getElem?_eq_getElem k1) (List.getElem?_eq_getElem k2) (List.getElem?_eq_getElem k3)))) (fun rr s2 q2 => ?_) fun _ _ x => x
    obtain ⟨hr, H2, I2, e2'⟩ := q2
    have hki : ks[i]? = some rr := by rw [hr]; exact List.getElem?_eq_getElem k3
    cases rr with
    | true =>
      refine .inl ⟨rfl, ⟨H2, I2, e1.trans e2'⟩, fun j hj => ?_⟩
      rcases Nat.lt_succ_iff_lt_or_eq.mp hj with hj | rfl
      · exact hk j hj
      · exact hki
    | false =>
      refine .inr ⟨rfl, ⟨H2, I2, e1.trans e2'⟩, ?_⟩
      rw [List.all_eq_false]
      exact ⟨false, List.mem_of_getElem? hki, by decide⟩
  · obtain ⟨q1, hk⟩ := q
    exact ⟨by rw [all_take hk (by simp; omega)], q1⟩
  · obtain ⟨q1, hk⟩ := q
    exact ⟨by rw [hk], q1⟩
/-- the same for !=, told by what == would say -/
def RcNB (X : Cx) (n : Nat) (D : EqvB) : Prop :=
  ∀ (A : Around) (pins : List (Addr × Obj)) (s : Shared) (σ : St) (H : Hp) (x y : V) (u v : Value) (k : Bool), Sub X n A → Inv X pins σ H s → RelV x u → RelV y v → D x y H k →
    wpAny (model X.prog X.w) A (richCompare .NotEq u v) (fun r s' => r = .bool (!k) ∧ ∃ H', Inv X pins σ H' s' ∧ Ext H H') X.xe s
theorem rcNB_tup (hD : MonB D) (h : EqB X n D) : RcNB X (n + 1) (DTupB X.K D) := by
  intro A pins s σ H x y u v k sb I rx ry d
  obtain ⟨a, b, xs, ys, ks, rfl, rfl, ha, hb, hlen, hks, hp, rfl⟩ := d
  cases rx
  cases ry
  obtain ⟨its, r, e, z⟩ := I.tuple ha
  obtain ⟨its2, r2, e2, z2⟩ := I.tuple hb
  have l1 := r.length
  have l2 := r2.length
  have hsz : its.toArray.size = its2.toArray.size := by rw [List.size_toArray, List.size_toArray, ← l1, ← l2]; exact hlen
  refine GQ.rc_tupNB hsz sb.room.units0 (fun i s' => (∃ H', Inv X pins σ H' s' ∧ Ext H H') ∧ ∀ j, j < i → ks[j]? = some true) (fun s' => (∃ H', Inv X pins σ H' s' ∧ Ext H H') ∧ ks.all id = false) e e2 (fun i h1 h2 s' q => ?_) (fun s' q => ?_) (fun s' q => ?_) ⟨⟨H, I, Ext.rfl'⟩, fun j hj => absurd hj (Nat.not_lt_zero _)⟩
  · obtain ⟨⟨H1, I1, e1⟩, hk⟩ := q
    have h1' : i < its.length := by simpa using h1
    have h2' : i < its2.length := by simpa using h2
    have g1 : its[i]? = some its.toArray[i] := by rw [List.getElem?_eq_getElem h1'] <;> simp
    have g2 : its2[i]? = some its2.toArray[i] := by rw [List.getElem?_eq_getElem h2'] <;> simp
    have k1 : i < xs.length := by omega
    have k2 : i < ys.length := by omega
    have k3 : i < ks.length := by omega
    obtain ⟨uu, hu, ru⟩ := r.get (List.getElem?_eq_getElem k1)
    obtain ⟨vv, hv, rv⟩ := r2.get (List.getElem?_eq_getElem k2)
    rw [g1] at hu
    rw [g2] at hv
    rw [Option.some.inj hu, Option.some.inj hv]
    refine wpAny_mono (h A.in1 pins s' σ H1 _ _ uu vv ks[i] sb.in1 I1 ru rv (hD _ _ _ _ _ e1 (hp i _ _ _ (List.getElem?_eq_getElem k1) (List.getElem?_eq_getElem k2) (List.getElem?_eq_getElem k3)))) (fun rr s2 q2 => ?_) fun _ _ x => x
    obtain ⟨hr, H2, I2, e2'⟩ := q2
    have hki : ks[i]? = some rr := by rw [hr]; exact List.getElem?_eq_getElem k3
    cases rr with
    | true =>
      refine .inl ⟨rfl, ⟨H2, I2, e1.trans e2'⟩, fun j hj => ?_⟩
      rcases Nat.lt_succ_iff_lt_or_eq.mp hj with hj | rfl
      · exact hk j hj
      · exact hki
    | false =>
      refine .inr ⟨rfl, ⟨H2, I2, e1.trans e2'⟩, ?_⟩
      rw [List.all_eq_false]
      exact ⟨false, List.mem_of_getElem? hki, by decide⟩
  · obtain ⟨q1, hk⟩ := q
    exact ⟨by rw [all_take hk (by simp; omega)]; rfl, q1⟩
  · obtain ⟨q1, hk⟩ := q
    exact ⟨by rw [hk]; rfl, q1⟩
/-- x == y, x != y as expressions -/
def rEqB (D : EqvB) : R2 := fun x y H Q => ∃ k, D x y H k ∧ ∀ H', Ext H H' → Q (.bl k) H'
def rNeB (D : EqvB) : R2 := fun x y H Q => ∃ k, D x y H k ∧ ∀ H', Ext H H' → Q (.bl (!k)) H'
theorem op_eqB (h : RcB X n D) (hr : Room n X.A) : OpR X (compareOp .Eq) (rEqB D) := by
  intro pins s σ H x y v u Q I rx ry hq
  obtain ⟨k, d, q⟩ := hq
  show wpAny (model X.prog X.w) X.A (richCompare .Eq v u) (EP X pins σ Q) X.xe s
  refine wpAny_mono (h X.A pins s σ H x y v u k ⟨hr, rfl⟩ I rx ry d) (fun r s' z => ?_) fun _ _ x => x
  obtain ⟨hr', H', I', e⟩ := z
  subst hr'
  exact ⟨.bl k, H', I', rfl, q H' e⟩
theorem op_neB (h : RcNB X n D) (hr : Room n X.A) : OpR X (compareOp .NotEq) (rNeB D) := by
  intro pins s σ H x y v u Q I rx ry hq
  obtain ⟨k, d, q⟩ := hq
  show wpAny (model X.prog X.w) X.A (richCompare .NotEq v u) (EP X pins σ Q) X.xe s
  refine wpAny_mono (h X.A pins s σ H x y v u k ⟨hr, rfl⟩ I rx ry d) (fun r s' z => ?_) fun _ _ x => x
  obtain ⟨hr', H', I', e⟩ := z
  subst hr'
  exact ⟨.bl (!k), H', I', rfl, q H' e⟩
end
end L2

set_option Elab.async false
set_option linter.all false
set_option maxRecDepth 100000
set_option maxHeartbeats 4000000
/-! except A as e: .. except B as e: ..; classes made with keyword-only parameters -/
namespace L2
open PySem PySem.Spec PyProof.Rows
abbrev SuT := Addr → Value → Option Addr → TS
/-- behind a suite the i-th slot is empty -/
def dropAt (i : Nat) (D : Ends) : Ends := { nx := fun g J => D.nx (g.set i none) J, rt := D.rt, bk := fun g J => D.bk (g.set i none) J, ct := fun g J => D.ct (g.set i none) J }
def wManyA (K : PySem.W.Frag) (Wo : WX) (D : Ends) : List (Value × Nat × SuT) → WX
  | [] => Wo
  | (c, i, ts) :: r => fun cl d g J => ∃ y, PySem.W.exmOne K cl c = some y ∧ (y = true → ∀ q, J q = none → ts q cl d (dropAt i D) (g.set i (some (.ref q))) J) ∧ (y = false → wManyA K Wo D r cl d g J)
inductive HdsA (X : Cx) : List ExceptHandler → List (Value × Nat × SuT) → Prop
  | nil : HdsA X [] []
  | cons {x n : Str} {c : Value} {i : Nat} {ts : SuT} {b0 : Stmt} {su : List Stmt} {np pp : Pos} {hds : List ExceptHandler} {l : List (Value × Nat × SuT)} (hi : X.N[i]? = some n) (hl : X.env.kindOf n = some .local) (hc : Names X x c)
      (hsu : ∀ (q : Addr) (oq : Obj) (cl : Value) (d : Option Addr) (pn : List (Addr × Obj)), Zc cl d oq → (∃ us, oq.data = .fields us) → PSs (X.suite q ((q, oq) :: pn)) (b0 :: su) (ts q cl d)) (r : HdsA X hds l) :
      HdsA X (.ExceptHandler (some (.Name x np)) (some n) (b0 :: su) pp :: hds) ((c, i, ts) :: l)
section
variable {X : Cx} {bd : List Stmt} {hd0 : ExceptHandler} {hds : List ExceptHandler} {l : List (Value × Nat × SuT)} {pos : Pos} {tb : WX → TS} {Wo : WX}
theorem ps_try_manyA (hs : X.stack = X.env :: X.outer) (hf : X.env.frame = some X.env.locals) (hN : X.N.Nodup) (tk : Takes X Wo)
    (hb : ∀ (W : WX) (pn : List (Addr × Obj)) (xe : Value → Shared → Prop), Takes (X.tr pn xe) W → PassesOwn (model X.prog X.w) X.A X.env xe → PSs (X.tr pn xe) bd (tb W))
    (hh : HdsA X (hd0 :: hds) l) : PS X (.Try bd (hd0 :: hds) [] [] pos) (fun D g J => tb (wManyA X.K Wo D l) D g J) := by
  refine ⟨fun pins s0 g0 J0 D I0 h => ?_⟩
  have kk := I0.ok
  have hfr : X.A.frames = some (X.env :: X.outer) := by rw [kk.frames, hs]
  refine wpAny_Try_except (wpAny_mono ((hb (wManyA X.K Wo D l) (X.pn ++ pins) (fun u t1 => wpAny (model X.prog X.w) X.A (noteFrame u X.env) (fun _ t2 => wpAny (model X.prog X.w) X.A (setFlight u none) (fun _ t3 =>
    wpAny (model X.prog X.w) X.A (handleBy u X.env (hd0 :: hds)) (SP X pins D) X.xe t3) X.xe t2) X.xe t1) (fun u t1 xx => ?_) PassesOwn.looking).run [] s0 g0 J0 D (I0.toTry _) h) (fun fl t1 hsp => ?_) (fun _ _ z => z))
  · obtain ⟨q, B, sI, pns, g1, J1, cl, d, rfl, K1, nb, up, sky, na, os, ag, wx⟩ := xx
    have V : Inv X pins g1 J1 sI := K1.ofTry kk
    have sky2 : Sky B (X.env :: X.outer) q (Zc cl d) X.env.locals t1.heap := by rw [← hs]; exact sky
    show wpAny (model X.prog X.w) X.A (noteFrame (.ref q) X.env) _ _ _
    refine Sky.land Zc.steady hfr hf sky2 fun h3 f3 u3 => ?_
    have V3 : Inv X pins g1 J1 { t1 with heap := h3 } := V.landed nb f3.1 (up.trans u3) os ag
    obtain ⟨o3, v3, e3, z3, d3⟩ := f3.there
    have apart : ∀ {hh : Heap} {o : Obj} {us : Array Value}, hh.FunFrames B (X.env :: X.outer) → hh.get? q = some o → o.data = .fields us → q ∉ frs (X.env :: X.outer) := fun {hh o us} ff e dd hm => by
      obtain ⟨_, o', e', hnf⟩ := ff.mem hm
      rw [e] at e'
      cases e'
      exact hnf _ dd
    have np := apart f3.2.2.1 e3 d3
    have nL : q ≠ X.env.locals := fun z => np (List.mem_filterMap.mpr ⟨X.env, List.mem_cons_self, by rw [hf, z]⟩)
    have nF : q ∉ X.fs := fun hm => by
      obtain ⟨e, he, r⟩ := List.mem_filterMap.mp hm
      exact np (List.mem_filterMap.mpr ⟨e, List.mem_cons_of_mem _ he, r⟩)
    have S3 := V3.suite e3 d3 na nL nF
    have go : ∀ {hz : List ExceptHandler} {lz : List (Value × Nat × SuT)}, HdsA X hz lz → wManyA X.K Wo D lz cl d g1 J1 → wpAny (model X.prog X.w) X.A (handleBy (.ref q) X.env hz) (SP X pins D) X.xe { t1 with heap := h3 } := by
      intro hz lz hk
      induction hk with
      | nil =>
        intro wz
        refine wpAny_handleBy_nil ?_
        obtain ⟨_, _, _, oq, us, TB, oT, ts2, he, hq, hdd, h1, hr⟩ := id f3
        unfold PySem.passOn
        refine wpAny_bind (wpAny_field he hdd h1 ?_)
        rw [if_neg (show ¬ ((Value.ref TB == Value.none) = true) by simp)]
        have fin : wpAny (model X.prog X.w) X.A (setFlight (.ref q) X.env.frame) (fun _ t4 => wpAny (model X.prog X.w) X.A (throw (.ref q) : Sem Flow) (SP X pins D) X.xe t4) X.xe { t1 with heap := h3 } := by
          rw [hf]
          refine HandSPX.setFlight_upZ f3 fun h4 hh4 up4 => wpAny_throw (tk _ _ ?_)
          exact ⟨q, B, sI, pins, g1, J1, cl, d, rfl, V, nb, (up.trans u3).trans up4, .inr (.inr (by rw [hs]; exact hh4)), na, os, ag, wz⟩
        first | exact wpAny_bind (wpAny_pure (wpAny_bind fin)) | exact wpAny_bind fin
      | @cons x n c i ts b0 su np pp hds2 l2 hi hl hc hsu r ih =>
        intro wz
        obtain ⟨y, hy, yes, no⟩ := wz
        refine wpAny_handleBy_cons (codeAny_handlers_test ?_) (by intro z; cases z)
        have LT : PySem.W.Looks (model X.prog X.w) h3 (typeOf (.ref q)) cl := fun A Q E s k r => wpAny_typeOf_ref (k _ _ e3) (by rw [z3.1]; exact r)
        have LM := PySem.W.exm_one (M := model X.prog X.w) (V3.kIn) LT hy
        have tst : ∀ {Q E : Value → Shared → Prop}, Q c { t1 with heap := h3 } → wpAny (model X.prog X.w) (X.A.mark (some (.ref q))) (eval (.Name x np) X.env) Q E { t1 with heap := h3 } := fun {Q E} z => by
          obtain ⟨hg, hdbg, hm | ⟨hm, hv, hnn⟩⟩ := hc
          · exact ld_glob (X := X.suite q ((q, o3) :: (X.pn ++ pins))) S3 hg hm z hdbg
          · exact ld_blt (X := X.suite q ((q, o3) :: (X.pn ++ pins))) S3 hg hm hv z hnn hdbg
        refine tst (LM.here ?_)
        cases y with
        | true =>
          refine codeAny_handlers_suite_as (HandSPX.lands_againZ f3 fun h4 f4 u4 => ?_)
          have V4 : Inv X pins g1 J1 { t1 with heap := h4 } := V.landed nb f4.1 ((up.trans u3).trans u4) os ag
          obtain ⟨o4, v4, e4, z4, d4⟩ := f4.there
          have S4 := V4.suite e4 d4 na nL nF
          have hloc : Loc X.env.scope n := .inl hl
          refine store_ok (X := X.suite q ((q, o4) :: (X.pn ++ pins))) (v := .ref q) S4 hN hi hloc rfl (fun t5 S5 => ?_) (.inr hl)
          refine wpAny_mono ((hsu q o4 cl d (X.pn ++ pins) z4 ⟨_, d4⟩).run [] t5 _ J1 _ S5 (yes rfl q na)) (fun fl t6 sp => ?_) (fun _ _ z => False.elim z)
          have ends : ∀ {g6 : St} {J6 : Hp} {Q : Shared → Prop}, Inv (X.suite q ((q, o4) :: (X.pn ++ pins))) [] g6 J6 t6 → (∀ t7, Inv X pins (g6.set i none) J6 t7 → Q t7) →
              wpAny (model X.prog X.w) X.A (do bindName X.env n .none; unbindBehindTheSuite X.env n pp) (fun _ t7 => Q t7) X.xe t6 := fun {g6 J6 Q} S6 hq => gone_ok (S6.unsuite kk) hN hi hl hq
          cases fl with
          | next =>
            obtain ⟨g6, J6, S6, r6⟩ := sp
            exact ends S6 fun t7 V7 => ⟨_, _, V7, r6⟩
          | brk =>
            obtain ⟨g6, J6, S6, r6⟩ := sp
            exact ends S6 fun t7 V7 => ⟨_, _, V7, r6⟩
          | cont =>
            obtain ⟨g6, J6, S6, r6⟩ := sp
            exact ends S6 fun t7 V7 => ⟨_, _, V7, r6⟩
          | ret u =>
            obtain ⟨w6, g6, J6, S6, r6, y6⟩ := sp
            exact ends S6 fun t7 V7 => ⟨_, _, _, V7, r6, y6⟩
        | false =>
          show wpAny _ X.A (handleBy (.ref q) X.env hds2) _ _ _
          exact ih (no rfl)
    exact go hh wx
  · cases fl with
    | next =>
      obtain ⟨g6, J6, V6, r⟩ := hsp
      exact wpAny_execs_nil ⟨g6, J6, V6.ofTry kk, r⟩
    | brk =>
      obtain ⟨g6, J6, V6, r⟩ := hsp
      exact ⟨g6, J6, V6.ofTry kk, r⟩
    | cont =>
      obtain ⟨g6, J6, V6, r⟩ := hsp
      exact ⟨g6, J6, V6.ofTry kk, r⟩
    | ret u =>
      obtain ⟨v6, g6, J6, V6, rv, r⟩ := hsp
      exact ⟨v6, g6, J6, V6.ofTry kk, rv, r⟩
end
/-! ### C(e, .., k = v, ..), keyword-only parameters without defaults, all written in their order -/
section
variable {K : PySem.W.Frag} {x qual : Str} {st : Stmt} {f : Addr} {fd : FuncData} {ps ks : List Str} {n : Nat}
abbrev KBa (K : PySem.W.Frag) (fd : FuncData) (ps : List Str) (n : Nat) (ks : List Str) : Prop := KBn K fd ps n ks (fun us ws => us ++ ws) (fun vs zs => vs ++ zs)
theorem Fun.kba (F : Fun K x qual st f fd)
    (h : ∀ (kV doc pm : Value) (an : Option Addr) (cdv ct : Value) (us ws : List Value), us.length = n → ws.length = ks.length → bindArgs (PySem.W.fnOf x qual (defArgs st) (defBody st) (defScope st) .none kV doc pm an cdv ct) ⟨us, ks.zip ws⟩ = pure (ps.zip (us ++ ws))) : KBa K fd ps n ks := by
  obtain ⟨_, _, kV, doc, pm, an, cdv, ct, _, rfl, _, _⟩ := F.ex
  exact ⟨fun s us ws _ l1 l2 => .of_eq (h kV doc pm an cdv ct us ws l1 l2), fun r1 r2 => r1.append r2⟩
end
structure OwnCK (P : Program) (w : World) (K : PySem.W.Frag) (mg : Str → Option Value) (base : Heap) (CX : CXT) (x : Str) (C : Addr) (k : Nat) (ps : List Str) (n : Nat) (ks : List Str) (sp : Sp) : Prop where
  ex : ∃ (f : Addr) (fd : FuncData), FnOk P w K mg base CX k f fd ps sp ∧ Mk K C f ∧ mg x = some (.ref C) ∧ KBa K fd ps (n + 1) ks
section
variable {X : Cx} {CX : CXT} {k n : Nat} {f C : Addr} {fd : FuncData} {ps ks : List Str} {sp : Sp} {E : St → XK} {x : Str} {p pos : Pos} {e : Expr} {es : List Expr} {kws : List Keyword} {t tk : TA} {W : WX}
/-- the errors wished at the slots -/
def tMakeKS (C : Addr) (n m : Nat) (sp : Sp) (E : St → XK) (t tk : TA) : TE := fun g J Q => t g J fun vs J1 => tk g J1 fun zs J2 => vs.length = n ∧ zs.length = m ∧ ∀ o dx, J2 o = none → J2 dx = none → dx ≠ o →
  sp (.ref o :: vs ++ zs) (upd (upd J2 dx (.own o)) o (.ins C dx [])) (fun v J3 => v = .non ∧ Q (.ref o) J3) (fun cl d J3 => E g cl d J3)
theorem run_makeKS {pins : List (Addr × Obj)} {g : St} {J : Hp} {s : Shared} {Q : VK} {us ws : List Value} {vs zs : List V} (M : Mk X.K C f) (F : FnOk X.prog X.w X.K X.mg X.base CX k f fd ps sp) (hr : Room (k + 1) X.A) (hb : KBa X.K fd ps (n + 1) ks) (hx : PassesAt CX X g (E g))
    (I : Inv X pins g J s) (r : Vals vs us) (rz : Vals zs ws) (l1 : vs.length = n) (l2 : zs.length = ks.length)
    (h : ∀ o dx, J o = none → J dx = none → dx ≠ o → sp (.ref o :: vs ++ zs) (upd (upd J dx (.own o)) o (.ins C dx [])) (fun v J2 => v = .non ∧ Q (.ref o) J2) (E g)) :
    wpAny (model X.prog X.w) X.A (call (.ref C) us (ks.zip ws)) (EP X pins g Q) X.xe s := by
  have want := h (s.heap.objs.size + 1) s.heap.objs.size (I.hok.fresh (Nat.le_succ _)) (I.hok.fresh (Nat.le_refl _)) (Nat.ne_of_lt (Nat.lt_succ_self _))
  have I2 := Inv.made (C := C) I
  have m1 : Vals (V.ref (s.heap.objs.size + 1) :: vs) (Value.ref (s.heap.objs.size + 1) :: us) := .cons rfl r
  have m2 := hb.rel m1 rz
  have k1 : (Value.ref (s.heap.objs.size + 1) :: us).length = n + 1 := by rw [List.length_cons, ← r.length, l1]
  refine wpAny_call (make_map (f := f) I.kIn M.makes M.init (beq_iff_eq.mp M.fn) (codeAny_mono (F.run _ X.stack _ _ ⟨Value.ref (s.heap.objs.size + 1) :: us, ks.zip ws⟩ (Value.ref (s.heap.objs.size + 1) :: us ++ ws) _ _ (E g) (hr.make C us (ks.zip ws))
    (I2.env0.make C us (ks.zip ws)) (hb.to _ (Value.ref (s.heap.objs.size + 1) :: us) ws I2.kIn k1 (rz.length.symm.trans l2)) m2 want) fun z t1 hz => ?_))
  cases z with
  | error u => exact hx pins _ _ u t1 I2 hz
  | ok fl =>
    cases fl with
    | ret u =>
      obtain ⟨v, J3, I3, rv, ev, q3⟩ := I2.after hz
      subst ev
      exact ⟨rv, ⟨V.ref (s.heap.objs.size + 1), J3, I3, rfl, q3⟩⟩
    | next => exact False.elim hz
    | brk => exact False.elim hz
    | cont => exact False.elim hz
theorem pe_newKS (O : OwnCK X.prog X.w X.K X.mg X.base (L2.CX X.prog X.w) x C k ps n ks sp) (hr : Room (k + 1) X.A) (tw : Takes X W) (ha : PA X (e :: es) t) (hkw : PK X kws tk) (hg : Gl X x := by rfl)
    (hall : (backToKw pos (keywordEach kws X.env)).all (·.1.isSome) = true := by rfl) (hks : (backToKw pos (keywordEach kws X.env)).filterMap (·.1) = ks := by rfl) (hdb : (x == ("__debug__" : Str)) = false := by decide)
    (he : starEach (e :: es) X.env = (false, eval e X.env) :: starEach es X.env := by rfl) (hpl : ((backTo pos (starEach (e :: es) X.env)).any (·.1) || (backToKw pos (keywordEach kws X.env)).any (·.1.isNone)) = false := by rfl) :
    PE X (.Call (.Name x p) (e :: es) kws pos) (tMakeKS C n ks.length sp (WE W) t tk) := by
  obtain ⟨f, fd, F, M, hm, hb⟩ := O.ex
  refine ⟨fun pins s g J Q I h => wpAny_Call_Name_kw (ld_glob I hg hm ?_ hdb)⟩
  refine PySem.W.callWith_KW (h₀ := X.base) I.ok.mod.kin M.kp hall (thn (ha.run pos pins s g J _ I h) fun us s1 ⟨vs, J1, I1, r, q⟩ => ?_) hpl he
  refine thn (hkw.run pos pins s1 g J1 _ I1 q) fun ws s2 ⟨zs, J2, I2, rz, l1, l2, q2⟩ => ⟨I2.kIn, ?_⟩
  rw [hks]
  exact run_makeKS M F hr hb (passAt tw g) I2 r rz l1 l2 q2
end
section
variable {X : Cx} {e : Expr} {f : Str} {pos : Pos} {ta : TE}
/-- e.f where the context is not known yet -/
theorem pe_fldA (he : PE X e ta) (hb : attributeBase e f X.env (eval e X.env) = eval e X.env := by rfl) : PE X (.Attribute e f pos) (tFld X.K ta f) := pe_fld he hb
end
end L2

set_option Elab.async false
set_option maxRecDepth 100000
set_option maxHeartbeats 4000000
/-! slices and sums of tuples, whichever object it is -/
namespace L2
open PySem PySem.Spec PyProof.Rows
section
variable {X : Cx}
theorem cut_whole {xs : List V} {lo hi : Option Int} (h : HT.sIx xs.length 0 lo = 0 ∧ HT.sIx xs.length xs.length hi = xs.length) : cutV xs lo hi = xs := by
  unfold cutV
  rw [h.1, h.2]
  simp
/-- a slice of a tuple, whichever object it is -/
def rSlE : V → Option Int → Option Int → Hp → VK → Prop := fun x lo hi H Q => ∃ a xs, x = .ref a ∧ H a = some (.tup xs) ∧ ∀ p H', Ext H H' → H' p = some (.tup (cutV xs lo hi)) → Q (.ref p) H'
theorem sl_tupE : SlR X rSlE := by
  intro pins s σ H x v vl vu lo hi sl Q I rx hs pl pu h
  obtain ⟨a, xs, rfl, ha, q⟩ := h
  exact sl_tupA pins s σ H _ v vl vu lo hi sl Q I rx hs pl pu ⟨a, xs, rfl, SqT.of ha, fun hw => q a H Ext.rfl' (by rw [cut_whole hw]; exact ha), fun _ p hp => q p _ (Ext.upd hp) upd_same⟩
/-- the sum of two tuples, whichever object it is -/
def rCatE : R2 := fun x y H Q => ∃ a b xs ys, x = .ref a ∧ y = .ref b ∧ H a = some (.tup xs) ∧ H b = some (.tup ys) ∧ xs.length + ys.length ≤ sizeLine ∧ ∀ p H', Ext H H' → H' p = some (.tup (xs ++ ys)) → Q (.ref p) H'
theorem op_catE : OpR X (binaryOp .Add) rCatE := by
  intro pins s σ H x y v u Q I rx ry h
  obtain ⟨a, b, xs, ys, rfl, rfl, ha, hb, hz, q⟩ := h
  refine op_catA pins s σ H _ _ v u Q I rx ry ⟨a, b, xs, ys, rfl, rfl, SqT.of ha, SqT.of hb, hz, fun e => q b H Ext.rfl' ?_, fun _ e => q a H Ext.rfl' ?_, fun _ _ p hp => q p _ (Ext.upd hp) upd_same⟩
  · subst e
    exact hb
  · subst e
    rw [List.append_nil]
    exact ha
end
end L2

set_option Elab.async false
set_option linter.all false
set_option maxRecDepth 100000
set_option maxHeartbeats 4000000
/-! one of two readings; tuple.index of flat items; an own __contains__ -/
namespace PySem.W
open PySem PySem.Calls PyProof.Rows
section
variable {prog : Program} {w : World} {A : Around} {E : Value → Shared → Prop} {s : Shared} {K : Frag} {x C f : Addr} {ox : Obj} {od : Option Obj}
theorem contains_fn {v : Value} {Q : Bool → Shared → Prop} (X : K.In s.heap) (I : InstAt s.heap x ox C od) (hs : findIn K (.ref C) "__contains__" = some (some (.ref f))) (hf : isFn K (.ref f) = true)
    (h : wpAny (model prog w) A (call (.ref f) [.ref x, v]) (fun r s' => ∃ b, r = .bool b ∧ Q b s') E s) : wpAny (model prog w) A (contains (.ref x) v) Q E s := by
  unfold contains
  refine wpAny_holding ?_
  have e1 : stdlibNamesSay? (.ref x) v = none := rfl
  rw [e1]
  refine wpAny_bind (wpAny_bind (I.type.here ((looks_findIn X hs).here ?_)))
  show wpAny _ _ (if (some (Value.ref f) == some Value.none) = true then _ else _) _ _ _
  rw [if_neg (by simp)]
  refine wpAny_bind (m := callSpecialUnlessNone? (.ref x) _ _ _) ?_
  unfold callSpecialUnlessNone?
  refine wpAny_bind (wpAny_bind (I.type.here ((looks_findIn X hs).here ?_)))
  refine wpAny_holding (wpAny_bind ((bind_fn X _ (beq_iff_eq.mp hf)).here ?_))
  show wpAny _ _ (if (Value.ref f == Value.none) = true then _ else _) _ _ _
  rw [if_neg (by simp)]
  refine wpAny_bind (wpAny_mono h (fun r s' z => ?_) fun _ _ z => z)
  obtain ⟨b, rfl, q⟩ := z
  exact wpAny_pure (wpAny_truthy_bool q)
end
end PySem.W
namespace L2
open PySem PySem.Spec PyProof.Rows
section
variable {X : Cx}
theorem pe_either {ex : Expr} {t1 t2 : TE} (h1 : PE X ex t1) (h2 : PE X ex t2) : PE X ex (fun g J Q => t1 g J Q ∨ t2 g J Q) := ⟨fun pins s g J Q I h => h.elim (fun z => h1.run pins s g J Q I z) (fun z => h2.run pins s g J Q I z)⟩
def rIndexT (K : PySem.W.Frag) : V → List V → Hp → VK → Prop := fun o vs J Q => ∃ (p : Addr) (ts : List V) (e : V) (n : Nat) (c : V), o = V.ref p ∧ vs = [e] ∧ SqT K J p ts ∧ flatV e = true ∧ ts.all flatV = true ∧ ts[n]? = some c ∧ eqV c e = true ∧
  (∀ (m : Nat) (c' : V), m < n → ts[m]? = some c' → eqV c' e = false) ∧ Q (.int (n : Nat)) J
theorem mt_tupIndex : MtR X "tuple.index" (rIndexT X.K) := by
  intro pins s g J o vs v us Q I ro rvs h
  obtain ⟨p, ts, e, n, c, rfl, rfl, ht, fe, fts, hc, hce, no, q⟩ := h
  cases ro
  cases rvs with
  | cons re rt =>
    rename_i ue ut
    cases rt
    obtain ⟨its, rv, ⟨⟨cls, dd, dt, sl⟩, ho, hcl, nn, hd⟩, hz⟩ := I.tuple ht
    simp only at hcl hd
    subst hcl hd
    obtain ⟨u, hu, ru⟩ := rv.get hc
    obtain ⟨nl, ne⟩ := List.getElem?_eq_some_iff.mp hu
    have hvl := rv.length
    have hn : n < its.toArray.size := by simpa using nl
    refine call_meets PySem.F.slot_tuple_index ⟨_, ho, rfl⟩ PySem.F.entry_tuple_index (PySem.F.args_tuple_index_2 _ _) (TI.tuple_indexAt p its.toArray nn dd sl ue (eqU e) n hn ?_ ?_)
      ⟨ho, fun w hw => mem_eqAt re fe rv fts w (by simpa using hw), ?_⟩
    · have e1 : its.toArray[n] = u := by simpa using ne
      rw [e1, eqU_of ru (flat_at fts hc)]
      exact hce
    · intro m hm hmn
      have ml : m < its.length := by simpa using hm
      have mt : m < ts.length := by omega
      have gm : ts[m]? = some ts[m] := List.getElem?_eq_getElem mt
      obtain ⟨u2, hu2, ru2⟩ := rv.get gm
      obtain ⟨_, me⟩ := List.getElem?_eq_some_iff.mp hu2
      have e2 : its.toArray[m] = u2 := by simpa using me
      rw [e2, eqU_of ru2 (flat_at fts gm)]
      exact no m _ hmn gm
    · exact ⟨.int (n : Nat), J, I.tok _, ⟨_, rfl⟩, q⟩
end
section
variable {X : Cx} {CX : CXT} {k : Nat} {f C : Addr} {fd : FuncData} {ps : List Str} {sp : Sp}
/-- x in o, o an instance of the class at C with an own __contains__ -/
def rInO (C : Addr) (sp : Sp) : R2 := fun x y H Q => ∃ a dx fs, y = .ref a ∧ H a = some (.ins C dx fs) ∧ sp [y, x] H (fun v H' => ∃ b, v = .bl b ∧ Q (.bl b) H') E0
theorem op_inO (F : FnOk X.prog X.w X.K X.mg X.base CX k f fd ps sp) (hs : PySem.W.findIn X.K (.ref C) "__contains__" = some (some (.ref f))) (hf : PySem.W.isFn X.K (.ref f) = true) (hr : Room k X.A) (hb : Binds X.K fd ps []) (hx : Passes CX X E0) : OpR X (compareOp .In) (rInO C sp) := by
  intro pins s g J x y v u Q I rx ry hq
  obtain ⟨a, dx, fs, rfl, ha, q⟩ := hq
  cases (show u = Value.ref a from ry)
  obtain ⟨mA, O, _⟩ := ins_get I.hok ha
  obtain ⟨od, O, _⟩ := O.look
  show wpAny (model X.prog X.w) X.A (contains (.ref a) v >>= fun b => pure (.bool b)) (EP X pins g Q) X.xe s
  refine wpAny_bind (PySem.W.contains_fn I.kIn O hs hf (wpAny_mono (run_at (vs := [.ref a, x]) F hr rfl hb hx I (.cons rfl (.cons rx .nil)) q) (fun r s' z => ?_) fun _ _ e => e))
  obtain ⟨w', J', I', rv, b, rfl, q'⟩ := z
  cases rv
  exact ⟨b, rfl, wpAny_pure ⟨.bl b, J', I', rfl, q'⟩⟩
theorem inO {m : Nat} (O : OwnM X.prog X.w X.K X.mg X.base CX C "__contains__" m ps sp) (hr : Room m X.A) (hx : Passes CX X E0) : OpR X (compareOp .In) (rInO C sp) := by
  obtain ⟨f, fd, F, M, hi, hb⟩ := O.ex
  exact op_inO F M.at_ hi hr hb hx
end
end L2

set_option Elab.async false
set_option maxRecDepth 100000
set_option maxHeartbeats 4000000
/-! ranges with a step made lists and tuples; zip of two tuples in a comprehension; a def that is held by a name -/
namespace L2
open PySem PySem.Spec PyProof.Rows
theorem pss_dead {X : Cx} {ss : List Stmt} : PSs X ss (fun _ _ _ => False) := ⟨fun _ _ _ _ _ _ h => h.elim⟩
/-- the def at f keeps its promise -/
structure OwnAt (P : Program) (w : World) (K : PySem.W.Frag) (mg : Str → Option Value) (base : Heap) (CX : CXT) (f : Addr) (k : Nat) (ps : List Str) (sp : Sp) : Prop where
  ex : ∃ fd, FnOk P w K mg base CX k f fd ps sp ∧ PySem.W.keepIn K (.ref f) = true ∧ Binds K fd ps []
theorem Own.at_ {P : Program} {w : World} {K : PySem.W.Frag} {mg : Str → Option Value} {base : Heap} {CX : CXT} {x : Str} {k : Nat} {ps : List Str} {sp : Sp} (O : Own P w K mg base CX x k ps sp) : ∃ f, mg x = some (.ref f) ∧ OwnAt P w K mg base CX f k ps sp := by
  obtain ⟨f, fd, F, hm, hk, hb⟩ := O.ex
  exact ⟨f, hm, fd, F, hk, hb⟩
section
variable {X : Cx} {CX : CXT} {x : Str} {k i : Nat} {f : Addr} {ps : List Str} {sp : Sp} {e : Expr} {es : List Expr} {t : TA} {p pos : Pos}
/-- the i-th slot holds f, which is called; W is wished for what it raises -/
def tCallVS (i : Nat) (f : Addr) (sp : Sp) (E : St → XK) (t : TA) : TE := fun σ H Q => σ[i]? = some (some (.ref f)) ∧ t σ H fun vs H1 => sp vs H1 Q (E σ)
theorem pe_ownVS {W : WX} (O : OwnAt X.prog X.w X.K X.mg X.base (L2.CX X.prog X.w) f k ps sp) (hr : Room k X.A) (tk : Takes X W) (hN : X.N[i]? = some x) (hv : Vis X.env.scope x) (ha : PA X (e :: es) t)
    (hdb : (x == ("__debug__" : Str)) = false := by decide) (hcd : (x == ("__classdict__" : Str)) = false := by decide)
    (he : starEach (e :: es) X.env = (false, eval e X.env) :: starEach es X.env := by rfl) (hpl : (backTo pos (starEach es X.env)).any (·.1) = false := by rfl) : PE X (.Call (.Name x p) (e :: es) [] pos) (tCallVS i f sp (WE W) t) := by
  obtain ⟨fd, F, hk, hb⟩ := O.ex
  refine ⟨fun pins s σ H Q I h => ?_⟩
  obtain ⟨hσ, h⟩ := h
  refine PyProof.Rows.Call_ (thn ((pe_var (pos := p) hN hv hdb hcd).run pins s σ H (fun y H1 => y = .ref f ∧ H1 = H) I ⟨_, hσ, rfl, rfl⟩) fun u s1 ⟨y, H1, I1, rx, ex, eh⟩ => ?_) rfl
  subst ex eh
  obtain rfl : u = Value.ref f := rx
  refine PySem.W.callWith_K (h₀ := X.base) I1.ok.mod.kin hk (thn (ha.run pos pins s1 σ H1 _ I1 h) fun us s2 ⟨vs, H2, I2, r, q⟩ => ⟨I2.kIn, ?_⟩) he hpl
  exact run_fnSD (us := us) (vs := vs) F hr hb .nil (passAt tk σ) I2 r (by rw [List.append_nil]; exact q)
end
/-! zip of two tuples -/
section
variable {K : PySem.W.Frag} {a b : Addr} {xs ys : List V}
theorem walk_zipT {n : Nat} (hn : n = min xs.length ys.length) : Walk (RZ.ItzT K a b) n (fun H => SqT K H a xs ∧ SqT K H b ys) (YPair (fun i => xs[i]?) (fun i => ys[i]?)) := by
  refine ⟨fun i _ hi q => ⟨xs, ys, xs[i]'(by omega), ys[i]'(by omega), q.1, q.2, List.getElem?_eq_getElem (by omega), List.getElem?_eq_getElem (by omega)⟩, fun _ q => ⟨xs, ys, q.1, q.2, by omega⟩, fun i H v H' _ q y => ?_⟩
  obtain ⟨T, x, y, e1, e2, e3, h1, h2⟩ := y
  exact ⟨T, x, y, e1, e2, e3, h1 xs q.1, h2 ys q.2⟩
end
/-! ranges with a step -/
section
variable {X : Cx}
def PRg3 (X : Cx) (e : Expr) (t : St → Hp → (Int → Int → Int → Hp → Prop) → Prop) : Prop :=
  ∀ (pins : List (Addr × Obj)) (s : Shared) (σ : St) (H : Hp) (Q : Int → Int → Int → Hp → Prop), Inv X pins σ H s → t σ H Q →
    wpAny (model X.prog X.w) X.A (eval e X.env) (fun x s' => ∃ r a b c t u v H', x = Value.ref r ∧ IsRange s'.heap r a b c t u v ∧ Inv X pins σ H' s' ∧ Q a b c H') X.xe s
def tRg3 (t : TA) (σ : St) (H : Hp) (Q : Int → Int → Int → Hp → Prop) : Prop := t σ H fun vs H1 => ∃ a b c, vs = [.int a, .int b, .int c] ∧ c ≠ 0 ∧ (-(2 ^ 62) ≤ a ∧ a < 2 ^ 62 ∧ -(2 ^ 62) ≤ b ∧ b < 2 ^ 62 ∧ c.natAbs < 1073741824) ∧ Q a b c H1
end
end L2

set_option Elab.async false
set_option maxRecDepth 100000
set_option maxHeartbeats 4000000
/-! comprehensions over ranges and over zip of two tuples, told by the place; what is tested and made only adds to the heap -/
namespace L2
open PySem PySem.Spec PyProof.Rows
/-- a comprehension's turns -/
abbrev LcGo (J : It) (g : TG) (tt : TT) (te : TE) (vs : List Nat) (σ : St) (H1 : Hp) (D : Addr) (Qd : Hp → Prop) : Prop :=
  ∃ W : Nat → Nat → Hp → Prop, (∃ m, W 0 m (upd H1 D (.lst []))) ∧ ∀ i m H, W i m H →
    (J.stop i H ∧ Qd H) ∨ (J.go i H ∧ ∃ Nx : Hp → Prop, (∀ H', Nx H' → ∃ m', m' < m ∧ W (i + 1) m' H') ∧ ∀ x H', J.yld i H x H' → g x (wipe σ vs) H' fun σ2 H2 => wipe σ2 vs = wipe σ vs ∧ tt σ2 H2 fun b H3 =>
      if b = true then te σ2 H3 fun y H4 => ∃ acc, H4 D = some (.lst acc) ∧ acc.length < sizeLine ∧ Nx (upd H4 D (.lst (acc ++ [y]))) else Nx H3)
theorem range_snoc (n : Nat) : List.range (n + 1) = List.range n ++ [n] := List.range_succ
section
variable {K : PySem.W.Frag} {σ : St} {H : Hp} {te : TE} {tt : TT} {vs : List Nat}
theorem lc_turn {f : Nat → V} {b : Nat → Bool} {D : Addr} {i n : Nat} {σ2 : St} {H' : Hp} (hD : H D = none) (hz : n < sizeLine) (hi : i < n) (hw : wipe σ2 vs = wipe σ vs) (e : Ext H H') (hl : H' D = some (.lst (((List.range i).filter b).map f)))
    (ht : ∀ Q : Bool → Hp → Prop, (∀ H'', Ext H' H'' → Q (b i) H'') → tt σ2 H' Q) (he : b i = true → ∀ H3, Ext H' H3 → ∀ Q : VK, (∀ H'', Ext H3 H'' → Q (f i) H'') → te σ2 H3 Q) :
    wipe σ2 vs = wipe σ vs ∧ tt σ2 H' fun b' H3 => if b' = true then te σ2 H3 fun y H4 => ∃ acc, H4 D = some (.lst acc) ∧ acc.length < sizeLine ∧ (Ext H (upd H4 D (.lst (acc ++ [y]))) ∧ upd H4 D (.lst (acc ++ [y])) D = some (.lst (((List.range (i + 1)).filter b).map f)))
      else (Ext H H3 ∧ H3 D = some (.lst (((List.range (i + 1)).filter b).map f))) := by
  refine ⟨hw, ht _ fun H3 e3 => ?_⟩
  have hl3 := e3 _ _ hl
  cases hb : b i with
  | true =>
    refine iteT (he hb H3 e3 _ fun H4 e4 => ⟨_, e4 _ _ hl3, ?_, ext_mut ((e.trans e3).trans e4) hD, ?_⟩)
    · rw [List.length_map]
      refine Nat.lt_of_le_of_lt (Nat.le_trans (List.length_filter_le _ _) ?_) hz
      rw [List.length_range]
      omega
    · rw [upd_same, range_snoc, List.filter_append, List.map_append]
      simp [hb]
  | false =>
    refine iteF ⟨e.trans e3, ?_⟩
    rw [hl3, range_snoc, List.filter_append, List.map_append]
    simp [hb]
theorem lc_rgR {Qd : Addr → Hp → Prop} {lo : Int} {n j : Nat} {f : Nat → V} {b : Nat → Bool} (hz : n < sizeLine) (hw : ∀ x, wipe ((wipe σ vs).set j (some x)) vs = wipe σ vs)
    (ht : ∀ i, i < n → ∀ H', Ext H H' → ∀ Q : Bool → Hp → Prop, (∀ H'', Ext H' H'' → Q (b i) H'') → tt ((wipe σ vs).set j (some (.int (lo + i)))) H' Q)
    (he : ∀ i, i < n → b i = true → ∀ H', Ext H H' → ∀ Q : VK, (∀ H'', Ext H' H'' → Q (f i) H'') → te ((wipe σ vs).set j (some (.int (lo + i)))) H' Q)
    (q : ∀ D H', H D = none → Ext H H' → H' D = some (.lst (((List.range n).filter b).map f)) → Qd D H') : ∀ D, H D = none → LcGo (Itr lo n) (gName j) tt te vs σ H D (Qd D) := fun D hD =>
  lc_range (fun i H' => Ext H H' ∧ H' D = some (.lst (((List.range i).filter b).map f))) ⟨Ext.upd hD, upd_same⟩ (fun i H' hi pv => lc_turn hD hz hi (hw _) pv.1 pv.2 (ht i hi H' pv.1) fun hb H3 e3 => he i hi hb H3 (pv.1.trans e3)) (fun H' pv => q D H' hD pv.1 pv.2)
theorem lc_zipR {Qd : Addr → Hp → Prop} {a b2 : Addr} {xs ys : List V} {n i1 i2 : Nat} {f : Nat → V} {b : Nat → Bool} (hx : SqT K H a xs) (hy : SqT K H b2 ys) (hn : n = min xs.length ys.length) (hz : n < sizeLine)
    (hw : ∀ x y, wipe (((wipe σ vs).set i1 (some x)).set i2 (some y)) vs = wipe σ vs)
    (ht : ∀ i x y, i < n → xs[i]? = some x → ys[i]? = some y → ∀ H', Ext H H' → ∀ Q : Bool → Hp → Prop, (∀ H'', Ext H' H'' → Q (b i) H'') → tt (((wipe σ vs).set i1 (some x)).set i2 (some y)) H' Q)
    (he : ∀ i x y, i < n → xs[i]? = some x → ys[i]? = some y → b i = true → ∀ H', Ext H H' → ∀ Q : VK, (∀ H'', Ext H' H'' → Q (f i) H'') → te (((wipe σ vs).set i1 (some x)).set i2 (some y)) H' Q)
    (q : ∀ D H', H D = none → Ext H H' → H' D = some (.lst (((List.range n).filter b).map f)) → Qd D H') : ∀ D, H D = none → LcGo (RZ.ItzT K a b2) (gTup K 2 (gCons (gName i1) (gCons (gName i2) gNil))) tt te vs σ H D (Qd D) := fun D hD => by
  refine lc_it (walk_zipT (K := K) (a := a) (b := b2) (xs := xs) (ys := ys) hn) (fun i H' => Ext H H' ∧ H' D = some (.lst (((List.range i).filter b).map f))) ⟨Ext.upd hD, upd_same⟩ (fun i H' _ pv => ⟨hx.ext pv.1, hy.ext pv.1⟩) (fun i v H' H'' hi pv y => ?_) (fun H' pv => q D H' hD pv.1 pv.2)
  obtain ⟨T, x, y, rfl, hT, rfl, h1, h2⟩ := y
  have eT := Ext.upd (o := .tup [x, y]) hT
  refine ⟨T, [x, y], rfl, SqT.of upd_same, rfl, x, [y], rfl, y, [], rfl, rfl, ?_⟩
  exact lc_turn hD hz hi (hw _ _) (pv.1.trans eT) (eT _ _ pv.2) (ht i x y hi h1 h2 _ (pv.1.trans eT)) fun hb H3 e3 => he i x y hi h1 h2 hb H3 ((pv.1.trans eT).trans e3)
end
end L2

set_option Elab.async false
set_option maxRecDepth 100000
set_option maxHeartbeats 4000000
/-! rules with the kit's own part named, for what stands within a comprehension -/
namespace L2
open PySem PySem.Spec PyProof.Rows
section
variable {X : Cx} {K : PySem.W.Frag}
theorem ix_tupK (h : X.K = K) : IxR X (rIxT K) := by
  subst h
  exact ix_tup
theorem ix_listK (h : X.K = K) : IxR X (rIxL K) := by
  subst h
  exact ix_list
theorem cr_maxK (h : X.K = K) (hc : X.calm = true) : CallR X (.builtin "max") (rMax K) := by
  subst h
  exact cr_max hc
theorem cr_minK (h : X.K = K) (hc : X.calm = true) : CallR X (.builtin "min") (rMin K) := by
  subst h
  exact cr_min hc
theorem pe_fldK {e : Expr} {ta : TE} {f : Str} {pos : Pos} (h : X.K = K) (he : PE X e ta) (hb : attributeBase e f X.env (eval e X.env) = eval e X.env := by rfl) : PE X (.Attribute e f pos) (tFld K ta f) := by
  subst h
  exact pe_fld he hb
def iListK (K : PySem.W.Frag) (tl : TE) : TI := fun σ H R => tl σ H fun x H1 => ∃ a, x = .ref a ∧ (∃ xs, SqL K H1 a xs) ∧ R (Itl K a) H1
theorem pi_listK {tg l : Expr} {tl : TE} (h : X.K = K) (hl : PE X l tl) : PI X tg l (iListK K tl) := by
  subst h
  exact pi_list hl
def rTupOfK (K : PySem.W.Frag) : List V → Hp → VK → Prop := fun xs H Q => ∃ p ys, xs = [.ref p] ∧ ((SqL K H p ys ∧ ∀ l, H l = none → Q (.ref l) (upd H l (.tup ys))) ∨ (SqT K H p ys ∧ Q (.ref p) H))
theorem call_tuple_ofK (h : X.K = K) : CallR X (.type "tuple") (rTupOfK K) := by
  subst h
  exact call_tuple_of
def rListOfK (K : PySem.W.Frag) : List V → Hp → VK → Prop := fun xs H Q => ∃ p ys, xs = [.ref p] ∧ (SqL K H p ys ∨ SqT K H p ys) ∧ ∀ l, H l = none → Q (.ref l) (upd H l (.lst ys))
theorem call_list_ofK (h : X.K = K) : CallR X (.type "list") (rListOfK K) := by
  subst h
  exact call_list_of
end
end L2

set_option Elab.async false
set_option maxRecDepth 100000
set_option maxHeartbeats 4000000
/-! list(zip(a, b)) of two lists -/
namespace PySem
theorem zip_no_len : typeLookup (Value.type "zip") (Str.ofString "__len__") = pure none := am_miss_of_fast (by decide +kernel)
theorem zip_no_hint : typeLookup (Value.type "zip") (Str.ofString "__length_hint__") = pure none := am_miss_of_fast (by decide +kernel)
/-- what has been given out -/
structure ZGiven (h : Heap) (lo : Addr) (acc : Array Value) (xs ys : Array Value) (i : Nat) (as : List Addr) : Prop where
  acc : acc.toList = as.map Value.ref
  len : as.length = i
  rise : List.Pairwise (· < ·) as
  above : ∀ a ∈ as, lo < a
  below : ∀ a ∈ as, a < h.objs.size
  pairs : ∀ (j : Nat) (a : Addr), as[j]? = some a → ∃ x y, xs[j]? = some x ∧ ys[j]? = some y ∧ IsPair h a x y
/-- how the zip stands -/
structure ZSt (h : Heap) (z TI TO i1 i2 l1 l2 : Addr) (xs ys : Array Value) (i : Nat) : Prop where
  first : i = 0 → ∃ a b, IsZip h z TI TO .none ∧ IsPair h TO a b
  later : 0 < i → ∃ T f x y, IsZipHeld h z TI TO T f ∧ IsPair h T x y
  ti : IsPair h TI (.ref i1) (.ref i2)
  it1 : h.IsListIter i1 l1 i
  it2 : h.IsListIter i2 l2 i
  li1 : h.IsList l1 xs
  li2 : h.IsList l2 ys
structure ZOff (S z TI TO i1 i2 l1 l2 : Addr) : Prop where
  z : S ≠ z
  ti : S ≠ TI
  to : S ≠ TO
  i1 : S ≠ i1
  i2 : S ≠ i2
  l1 : S ≠ l1
  l2 : S ≠ l2
section
variable {prog : Program} {w : World} {A : Around} {z TI TO i1 i2 l1 l2 S lo : Addr} {xs ys : Array Value} {i : Nat} {h h' : Heap}
theorem ZGiven.next {acc : Array Value} {as : List Addr} {T : Addr} {x y : Value} (g : ZGiven h lo acc xs ys i as) (hT : T = h.objs.size) (hlo : lo < T) (hsz : h'.objs.size = h.objs.size + 1) (hx : xs[i]? = some x) (hy : ys[i]? = some y) (hp : IsPair h' T x y)
    (hk : ∀ a ∈ as, ∀ x y, IsPair h a x y → IsPair h' a x y) : ZGiven h' lo (acc.push (.ref T)) xs ys (i + 1) (as ++ [T]) where
  acc := by rw [Array.toList_push, g.acc, List.map_append]; rfl
  len := by rw [List.length_append, g.len]; rfl
  rise := by
    rw [List.pairwise_append]
    refine ⟨g.rise, List.pairwise_singleton _ _, fun a ha b hb => ?_⟩
    rw [List.mem_singleton.mp hb, hT]
    exact g.below a ha
  above := fun a ha => by
    rcases List.mem_append.mp ha with ha | ha
    · exact g.above a ha
    · rw [List.mem_singleton.mp ha]
      exact hlo
  below := fun a ha => by
    rw [hsz]
    rcases List.mem_append.mp ha with ha | ha
    · exact Nat.lt_succ_of_lt (g.below a ha)
    · rw [List.mem_singleton.mp ha, hT]
      exact Nat.lt_succ_self _
  pairs := fun j a hj => by
    by_cases e : j < as.length
    · rw [List.getElem?_append_left e] at hj
      obtain ⟨x', y', h1, h2, h3⟩ := g.pairs j a hj
      exact ⟨x', y', h1, h2, hk a (List.mem_of_getElem? hj) _ _ h3⟩
    · have hl := (List.getElem?_eq_some_iff.mp hj).1
      rw [List.length_append] at hl
      have hl1 : [T].length = 1 := rfl
      have ej : j = as.length := by omega
      rw [List.getElem?_append_right (by omega), ej, Nat.sub_self] at hj
      cases hj
      rw [ej, g.len]
      exact ⟨x, y, hx, hy, hp⟩
theorem ZGiven.upd {acc : Array Value} {as : List Addr} {f : Obj → Obj} {oS : Obj} (g : ZGiven h lo acc xs ys i as) (hS : h.get? S = some oS) (hc : oS.cls = .type "list") : ZGiven (h.update S f) lo acc xs ys i as where
  acc := g.acc
  len := g.len
  rise := g.rise
  above := g.above
  below := fun a ha => by rw [Heap.size_update]; exact g.below a ha
  pairs := fun j a hj => by
    obtain ⟨x, y, h1, h2, h3⟩ := g.pairs j a hj
    refine ⟨x, y, h1, h2, ?_⟩
    have ne : S ≠ a := fun e => by
      subst e
      have h4 : h.get? S = some _ := h3
      rw [hS] at h4
      cases h4
      exact absurd (show Value.type "tuple" = Value.type "list" from hc) (by decide)
    show (h.update S f).get? a = _
    rw [Heap.get?_update_other h f ne]
    exact h3
theorem ZSt.upd {f : Obj → Obj} (s : ZSt h z TI TO i1 i2 l1 l2 xs ys i) (o : ZOff S z TI TO i1 i2 l1 l2) {oS : Obj} (hS : h.get? S = some oS) (hc : oS.cls = .type "list") : ZSt (h.update S f) z TI TO i1 i2 l1 l2 xs ys i where
  first := fun e => by
    obtain ⟨a, b, h1, h2⟩ := s.first e
    exact ⟨a, b, (Heap.get?_update_other h f o.z).trans h1, (Heap.get?_update_other h f o.to).trans h2⟩
  later := fun e => by
    obtain ⟨T, b, x, y, h1, h2⟩ := s.later e
    have ne : S ≠ T := fun e => by
      subst e
      have h4 : h.get? S = some _ := h2
      rw [hS] at h4
      cases h4
      exact absurd (show Value.type "tuple" = Value.type "list" from hc) (by decide)
    exact ⟨T, b, x, y, (Heap.get?_update_other h f o.z).trans h1, (Heap.get?_update_other h f ne).trans h2⟩
  ti := (Heap.get?_update_other h f o.ti).trans s.ti
  it1 := by
    obtain ⟨q, h1, h2⟩ := s.it1
    exact ⟨q, (Heap.get?_update_other h f o.i1).trans h1, h2⟩
  it2 := by
    obtain ⟨q, h1, h2⟩ := s.it2
    exact ⟨q, (Heap.get?_update_other h f o.i2).trans h1, h2⟩
  li1 := by
    obtain ⟨q, h1, h2⟩ := s.li1
    exact ⟨q, (Heap.get?_update_other h f o.l1).trans h1, h2⟩
  li2 := by
    obtain ⟨q, h1, h2⟩ := s.li2
    exact ⟨q, (Heap.get?_update_other h f o.l2).trans h1, h2⟩
theorem zip_loop (hh : A.in1.handled = none) (D : ZipApart z TI TO i1 i2 l1 l2) (o : ZOff S z TI TO i1 i2 l1 l2) (res : Value) {n : Nat} (hn : n = min xs.size ys.size) (hz : n + 1 ≤ sizeLine) {g : Array GenState} {d : _} {tk : Nat} {os : _} {R : Result → Shared → Prop} :
    ∀ (k i : Nat) (h : Heap) (acc : Array Value) (c : Nat) (as : List Addr), n - i = k → i ≤ n → ZSt h z TI TO i1 i2 l1 l2 xs ys i → h.get? S = some { cls := .type "list", data := .seq acc c } → lo < h.objs.size → ZGiven h lo acc xs ys i as →
      (∀ (h' : Heap) (acc' : Array Value) (c' : Nat) (as' : List Addr), (∀ b ob, b ≠ S → b ≠ z → b ≠ TO → b ≠ i1 → b ≠ i2 → h.get? b = some ob → h'.get? b = some ob) → h'.get? S = some { cls := .type "list", data := .seq acc' c' } → ZGiven h' lo acc' xs ys n as' → R (.ok (.ret res)) ⟨h', g, d, tk, os⟩) →
      codeAny (model prog w) A (.builtin "list.extend.loop" ⟨[.ref S, .ref z, res], []⟩) R ⟨h, g, d, tk, os⟩ := by
  intro k
  induction k with
  | zero =>
    intro i h acc c as hk hi st hS hlo gv hR
    have ei : i = n := by omega
    subst ei
    refine codeAny_builtin F.entry_extend_loop ?_
    rw [Around.under_plainId F.plain_extend_loop]
    refine wpAny_bind ?_
    have hend : xs[i]? = none ∨ ys[i]? = none := by
      rcases Nat.le_total xs.size ys.size with e | e
      · left
        exact Array.getElem?_eq_none (by omega)
      · right
        exact Array.getElem?_eq_none (by omega)
    by_cases h0 : i = 0
    · obtain ⟨a, b, hz1, hto⟩ := st.first h0
      refine wpAny_pyNext_zip_end hh D hz1 st.ti hto st.it1 st.it2 st.li1 st.li2 hend fun h' hk' => ?_
      refine wpAny_pure (hR h' acc c as (fun b ob b1 b2 b3 b4 b5 e => hk' b ob b2 b3 b4 b5 e) (hk' S _ o.z o.to o.i1 o.i2 hS) ?_)
      have has : as = [] := List.eq_nil_of_length_eq_zero (gv.len.trans h0)
      subst has
      exact ⟨gv.acc, gv.len, gv.rise, gv.above, (fun a ha => by cases ha), fun j a hj => by cases hj⟩
    · obtain ⟨T, f, tx, ty, hz1, hT⟩ := st.later (by omega)
      refine wpAny_pyNext_zip_end_held hh D hz1 hT st.ti st.it1 st.it2 st.li1 st.li2 hend fun h' hk' => ?_
      refine wpAny_pure (hR h' acc c as (fun b ob b1 b2 b3 b4 b5 e => hk' b ob b2 b4 b5 e) (hk' S _ o.z o.i1 o.i2 hS) ?_)
      have keep : ∀ a ∈ as, ∀ x y, IsPair h a x y → IsPair h' a x y := fun a ha x y hp => by
        refine hk' a _ (fun e => ?_) (fun e => ?_) (fun e => ?_) hp
        · subst e
          have q : h.get? a = some _ := hp
          rw [show h.get? a = some _ from hz1] at q
          injection q with q
          injection q with q
          exact absurd q (by decide)
        · subst e
          obtain ⟨ob, q1, q2, _⟩ := st.it1
          rw [show h.get? a = some _ from hp] at q1
          cases q1
          exact absurd (show Value.type "tuple" = Value.type "list_iterator" from q2) (by decide)
        · subst e
          obtain ⟨ob, q1, q2, _⟩ := st.it2
          rw [show h.get? a = some _ from hp] at q1
          cases q1
          exact absurd (show Value.type "tuple" = Value.type "list_iterator" from q2) (by decide)
      refine ⟨gv.acc, gv.len, gv.rise, gv.above, fun a ha => ?_, fun j a hj => ?_⟩
      · obtain ⟨j, hj⟩ := List.getElem?_of_mem ha
        obtain ⟨x, y, _, _, hp⟩ := gv.pairs j a hj
        exact Heap.lt_size (keep a ha _ _ hp)
      · obtain ⟨x, y, h1, h2, hp⟩ := gv.pairs j a hj
        exact ⟨x, y, h1, h2, keep a (List.mem_of_getElem? hj) _ _ hp⟩
  | succ k ih =>
    intro i h acc c as hk hi st hS hlo gv hR
    refine codeAny_builtin F.entry_extend_loop ?_
    rw [Around.under_plainId F.plain_extend_loop]
    refine wpAny_bind ?_
    obtain ⟨x, hx⟩ : ∃ x, xs[i]? = some x := ⟨_, Array.getElem?_eq_getElem (by omega)⟩
    obtain ⟨y, hy⟩ : ∃ y, ys[i]? = some y := ⟨_, Array.getElem?_eq_getElem (by omega)⟩
    have step : ∀ h' : Heap, ZSt h' z TI TO i1 i2 l1 l2 xs ys (i + 1) → IsPair h' h.objs.size x y → h'.objs.size = h.objs.size + 1 → (∀ b ob, b ≠ z → b ≠ TO → b ≠ i1 → b ≠ i2 → h.get? b = some ob → h'.get? b = some ob) → (∀ a ∈ as, ∀ x y, IsPair h a x y → IsPair h' a x y) →
        wpAny (model prog w) A.in1 (do
          Builtin.List.listUpdate (Value.ref S) fun q => q.push (.ref h.objs.size)
          again (Code.builtin "list.extend.loop" ⟨[.ref S, .ref z, res], []⟩)) (fun fin s' => match fin with
          | Fin.done f => R (Except.ok f) s'
          | Fin.again c' => c'.quiet = true ∧ codeAny (model prog w) A c' R s') (fun e s' => R (Except.error e) s') ⟨h', g, d, tk, os⟩ := fun h' st' hp hsz hk' hkp => by
      have hS' : h'.get? S = some { cls := .type "list", data := .seq acc c } := hk' S _ o.z o.to o.i1 o.i2 hS
      have hal : acc.size = i := by
        have e1 := congrArg List.length gv.acc
        rw [List.length_map, gv.len, Array.length_toList] at e1
        exact e1
      refine wpAny_bind (wpAny_updateSeq hS' rfl (wpAny_pure ⟨plainId_quiet F.plain_extend_loop _, ?_⟩) (by omega) (by rw [Array.size_push]; omega))
      have gv' := gv.next (h' := h') rfl hlo hsz hx hy hp hkp
      refine ih (i + 1) (h'.update S (Obj.mapSeq fun q => q.push (.ref h.objs.size))) (acc.push (.ref h.objs.size)) _ (as ++ [h.objs.size]) (by omega) (by omega) (st'.upd o hS' rfl) (Heap.get?_update_self (Obj.mapSeq fun q => q.push (.ref h.objs.size)) hS' rfl) ?_ (gv'.upd hS' rfl) fun h2 acc2 c2 as2 e1 e2 e3 => ?_
      · rw [Heap.size_update, hsz]
        exact Nat.lt_succ_of_lt hlo
      · exact hR h2 acc2 c2 as2 (fun b ob b1 b2 b3 b4 b5 e => e1 b ob b1 b2 b3 b4 b5 ((Heap.get?_update_other h' _ (Ne.symm b1)).trans (hk' b ob b2 b3 b4 b5 e))) e2 e3
    by_cases h0 : i = 0
    · obtain ⟨a, b, hz1, hto⟩ := st.first h0
      have has : as = [] := List.eq_nil_of_length_eq_zero (gv.len.trans h0)
      refine wpAny_pyNext_zip_item D hz1 st.ti hto st.it1 st.it2 st.li1 st.li2 hx hy fun h' a1 a2 a3 a4 a5 a6 a7 => step h' ⟨fun e => absurd e (Nat.succ_ne_zero _), fun _ => ⟨h.objs.size, false, x, y, a1, a5⟩, a7 TI _ D.TIz D.TITO D.TIi1 D.TIi2 st.ti, a3, a4, ?_, ?_⟩ a5 a6 a7 fun a ha => by rw [has] at ha; cases ha
      · obtain ⟨q, h1, h2⟩ := st.li1
        exact ⟨q, a7 l1 q D.l1z D.l1TO D.l1i1 D.l1i2 h1, h2⟩
      · obtain ⟨q, h1, h2⟩ := st.li2
        exact ⟨q, a7 l2 q D.l2z D.l2TO D.l2i1 D.l2i2 h1, h2⟩
    · obtain ⟨T, f, tx, ty, hz1, hT⟩ := st.later (by omega)
      have kp : ∀ (h' : Heap), (∀ b ob, b ≠ z → b ≠ i1 → b ≠ i2 → h.get? b = some ob → h'.get? b = some ob) → ∀ a x y, IsPair h a x y → IsPair h' a x y := fun h' a7 a x y hp => by
        refine a7 a _ (fun e => ?_) (fun e => ?_) (fun e => ?_) hp
        · subst e
          have q : h.get? a = some _ := hp
          rw [show h.get? a = some _ from hz1] at q
          injection q with q
          injection q with q
          exact absurd q (by decide)
        · subst e
          obtain ⟨ob, q1, q2, _⟩ := st.it1
          rw [show h.get? a = some _ from hp] at q1
          cases q1
          exact absurd (show Value.type "tuple" = Value.type "list_iterator" from q2) (by decide)
        · subst e
          obtain ⟨ob, q1, q2, _⟩ := st.it2
          rw [show h.get? a = some _ from hp] at q1
          cases q1
          exact absurd (show Value.type "tuple" = Value.type "list_iterator" from q2) (by decide)
      refine wpAny_pyNext_zip_item_held D hz1 hT st.ti st.it1 st.it2 st.li1 st.li2 hx hy fun h' a1 a3 a4 a5 a6 a7 => step h' ⟨fun e => absurd e (Nat.succ_ne_zero _), fun _ => ⟨T, true, tx, ty, a1, kp h' a7 T tx ty hT⟩, a7 TI _ D.TIz D.TIi1 D.TIi2 st.ti, a3, a4, ?_, ?_⟩ a5 a6 (fun b ob b1 b2 b3 b4 e => a7 b ob b1 b3 b4 e) fun a ha x y hp => kp h' a7 a x y hp
      · obtain ⟨q, h1, h2⟩ := st.li1
        exact ⟨q, a7 l1 q D.l1z D.l1i1 D.l1i2 h1, h2⟩
      · obtain ⟨q, h1, h2⟩ := st.li2
        exact ⟨q, a7 l2 q D.l2z D.l2i1 D.l2i2 h1, h2⟩
theorem list_init_zip (hh : A.in1.handled = none) (D : ZipApart z TI TO i1 i2 l1 l2) (o : ZOff S z TI TO i1 i2 l1 l2) {n : Nat} (hn : n = min xs.size ys.size) (hz : n + 1 ≤ sizeLine) {g : Array GenState} {d : _} {tk : Nat} {os : _} {R : Result → Shared → Prop}
    (st : ZSt h z TI TO i1 i2 l1 l2 xs ys 0) (hS : h.get? S = some { cls := .type "list", data := .seq #[] }) (hlo : lo < h.objs.size)
    (hR : ∀ (h' : Heap) (acc' : Array Value) (c' : Nat) (as' : List Addr), (∀ b ob, b ≠ S → b ≠ z → b ≠ TO → b ≠ i1 → b ≠ i2 → h.get? b = some ob → h'.get? b = some ob) → h'.get? S = some { cls := .type "list", data := .seq acc' c' } → ZGiven h' lo acc' xs ys n as' → R (.ok (.ret .none)) ⟨h', g, d, tk, os⟩) :
    wpAny (model prog w) A.in1 (Builtin.«list.__init__» ⟨[.ref S, .ref z], []⟩) (fun fin s' => match fin with
      | Fin.done f => R (Except.ok f) s'
      | Fin.again c' => c'.quiet = true ∧ codeAny (model prog w) A c' R s') (fun e s' => R (Except.error e) s') ⟨h, g, d, tk, os⟩ := by
  refine wpAny_bind ?_
  unfold Builtin.List.listItems
  refine wpAny_bind (wpAny_seqItems hS rfl (wpAny_pure ?_))
  refine wpAny_bind (wpAny_updateSeq hS rfl ?_)
  refine wpAny_bind (wpAny_letGo ?_)
  obtain ⟨a0, b0, hz0, hto0⟩ := st.first rfl
  have hS1 := Heap.get?_update_self (h := h) (Obj.mapSeq fun _ => #[]) hS rfl
  have st1 := st.upd (f := Obj.mapSeq fun _ => #[]) o hS rfl
  have sz1 : (h.update S (Obj.mapSeq fun _ => #[])).objs.size = h.objs.size := Heap.size_update _ _ _
  have off1 : ∀ b ob, b ≠ S → h.get? b = some ob → (h.update S (Obj.mapSeq fun _ => #[])).get? b = some ob := fun b ob hb e => (Heap.get?_update_other h _ (Ne.symm hb)).trans e
  generalize h.update S (Obj.mapSeq fun _ => #[]) = h1 at hS1 st1 sz1 off1 ⊢
  have hz1 : h1.get? z = some _ := off1 z _ (Ne.symm o.z) hz0
  have hT : ∀ (h2 : Heap) (g2 : _) , h2.get? z = some { cls := Value.type "zip", data := Data.fields #[Value.none, Value.bool false, Value.bool false, Value.ref TI, Value.ref TO] } → (Shared.mk h2 g2 d tk os).TypeIs (.ref z) "zip" := fun h2 g2 e => ⟨_, e, rfl⟩
  refine wpAny_bind (wpAny_typeOf (hT h1 g hz1) ?_)
  have e1 : (Builtin.List.listSameRef (Value.ref S) (Value.ref z) || Value.type "zip" == Value.type "list" || Value.type "zip" == Value.type "tuple") = false := by
    have : Builtin.List.listSameRef (Value.ref S) (Value.ref z) = false := beq_eq_false_iff_ne.mpr o.z
    rw [this]
    rfl
  rw [e1, if_neg (by decide)]
  refine wpAny_bind (wpAny_pyIter_zip hz1 ?_)
  refine wpAny_bind (wpAny_holding ?_)
  refine wpAny_bind (wpAny_specialOf (hT h1 g hz1) zip_no_len ?_)
  refine wpAny_bind (wpAny_specialOf (hT h1 g hz1) zip_no_hint (wpAny_pure ?_))
  rw [if_pos (by rfl)]
  refine wpAny_bind (wpAny_rule ?_)
  refine wpAny_bind ?_
  unfold Builtin.List.listTouch
  refine wpAny_bind (wpAny_updateSeq hS1 rfl ?_)
  have hS2 := Heap.get?_update_self (h := h1) (Obj.mapSeq fun q => q.push Value.none) hS1 rfl
  have st2 := st1.upd (f := Obj.mapSeq fun q => q.push Value.none) o hS1 rfl
  have sz2 : (h1.update S (Obj.mapSeq fun q => q.push Value.none)).objs.size = h1.objs.size := Heap.size_update _ _ _
  have off2 : ∀ b ob, b ≠ S → h1.get? b = some ob → (h1.update S (Obj.mapSeq fun q => q.push Value.none)).get? b = some ob := fun b ob hb e => (Heap.get?_update_other h1 _ (Ne.symm hb)).trans e
  generalize h1.update S (Obj.mapSeq fun q => q.push Value.none) = h2 at hS2 st2 sz2 off2 ⊢
  refine wpAny_updateSeq hS2 rfl ?_
  have hS3 := Heap.get?_update_self (h := h2) (Obj.mapSeq fun q => q.pop) hS2 rfl
  have st3 := st2.upd (f := Obj.mapSeq fun q => q.pop) o hS2 rfl
  have sz3 : (h2.update S (Obj.mapSeq fun q => q.pop)).objs.size = h2.objs.size := Heap.size_update _ _ _
  have off3 : ∀ b ob, b ≠ S → h2.get? b = some ob → (h2.update S (Obj.mapSeq fun q => q.pop)).get? b = some ob := fun b ob hb e => (Heap.get?_update_other h2 _ (Ne.symm hb)).trans e
  refine wpAny_pure ⟨plainId_quiet F.plain_extend_loop _, ?_⟩
  refine zip_loop (lo := lo) hh D o .none hn hz n 0 (h2.update S (Obj.mapSeq fun q => q.pop)) #[] _ [] (Nat.sub_zero n) (Nat.zero_le n) st3 hS3 (by rw [sz3, sz2, sz1]; exact hlo) ⟨rfl, rfl, .nil, (fun _ h => nomatch h), (fun _ h => nomatch h), (fun _ _ h => by cases h)⟩ fun h' acc' c' as' k1 k2 k3 => ?_
  exact hR h' acc' c' as' (fun b ob b1 b2 b3 b4 b5 e => k1 b ob b1 b2 b3 b4 b5 (off3 b ob b1 (off2 b ob b1 (off1 b ob b1 e)))) k2 k3
/-- list(z), z a zip of two lists as it was made -/
theorem call_list_zip {E : Value → Shared → Prop} {Q : Value → Shared → Prop} (hh : A.in1.in1.handled = none) (D : ZipApart z TI TO i1 i2 l1 l2) {n : Nat} (hn : n = min xs.size ys.size) (hz : n + 1 ≤ sizeLine) {s : Shared} (st : ZSt s.heap z TI TO i1 i2 l1 l2 xs ys 0)
    (hQ : ∀ (h' : Heap) (acc' : Array Value) (c' : Nat) (as' : List Addr), (∀ b ob, b ≠ z → b ≠ TO → b ≠ i1 → b ≠ i2 → s.heap.get? b = some ob → h'.get? b = some ob) → h'.get? s.heap.objs.size = some { cls := .type "list", data := .seq acc' c' } → ZGiven h' s.heap.objs.size acc' xs ys n as' → Q (.ref s.heap.objs.size) { s with heap := h' }) :
    wpAny (model prog w) A (call (.type "list") [.ref z]) Q E s := by
  obtain ⟨h, g, d, tk, os⟩ := s
  obtain ⟨a0, b0, hz0, hto0⟩ := st.first rfl
  refine callType_codes F.called_list (F.typeCall_list_1 _) F.entry_list_init (code_list_new (.ref z) (Q₁ := fun v s' => v = .ref h.objs.size ∧ s' = ⟨h.push { cls := .type "list", data := .seq #[] }, g, d, tk, os⟩) ⟨rfl, rfl⟩) fun obj s₁ h₁ => ?_
  obtain ⟨rfl, rfl⟩ := h₁
  have hS := Heap.get?_push_size h (o := { cls := .type "list", data := .seq #[] }) rfl
  have kp : ∀ b ob, h.get? b = some ob → (h.push { cls := Value.type "list", data := Data.seq #[] }).get? b = some ob := fun b ob e => Heap.get?_push_of_some _ e
  have lt : ∀ {b : Addr} {ob : Obj}, h.get? b = some ob → h.objs.size ≠ b := fun e => Nat.ne_of_gt (Heap.lt_size e)
  have o : ZOff h.objs.size z TI TO i1 i2 l1 l2 := ⟨lt hz0, lt st.ti, lt hto0, (by obtain ⟨_, q, _⟩ := st.it1; exact lt q), (by obtain ⟨_, q, _⟩ := st.it2; exact lt q), (by obtain ⟨_, q, _⟩ := st.li1; exact lt q), (by obtain ⟨_, q, _⟩ := st.li2; exact lt q)⟩
  have st' : ZSt (h.push { cls := Value.type "list", data := Data.seq #[] }) z TI TO i1 i2 l1 l2 xs ys 0 := ⟨fun _ => ⟨a0, b0, kp _ _ hz0, kp _ _ hto0⟩, fun e => absurd e (Nat.lt_irrefl _), kp _ _ st.ti, (by obtain ⟨q, q1, q2⟩ := st.it1; exact ⟨q, kp _ _ q1, q2⟩), (by obtain ⟨q, q1, q2⟩ := st.it2; exact ⟨q, kp _ _ q1, q2⟩), (by obtain ⟨q, q1, q2⟩ := st.li1; exact ⟨q, kp _ _ q1, q2⟩), (by obtain ⟨q, q1, q2⟩ := st.li2; exact ⟨q, kp _ _ q1, q2⟩)⟩
  refine ⟨⟨_, hS, rfl⟩, F.args_list_init_2 _ _, list_init_zip (lo := h.objs.size) hh D o hn hz st' hS (by rw [Heap.size_push]; exact Nat.lt_succ_self _) fun h' acc' c' as' k1 k2 k3 => ⟨rfl, ?_⟩⟩
  exact hQ h' acc' c' as' (fun b ob b2 b3 b4 b5 e => k1 b ob (Ne.symm (lt e)) b2 b3 b4 b5 (kp b ob e)) k2 k3
end
end PySem

set_option Elab.async false
set_option maxRecDepth 100000
set_option maxHeartbeats 4000000
/-! tuple(range(a, b, c)), list(range(a, b, c)), list(zip(x, y)) as expressions -/
namespace L2
open PySem PySem.Spec PyProof.Rows
section
variable {X : Cx}
theorem vals3 {x y z : V} {us : List Value} (r : Vals [x, y, z] us) : ∃ u v w, us = [u, v, w] ∧ RelV x u ∧ RelV y v ∧ RelV z w := by
  cases r with
  | cons h1 r =>
    obtain ⟨v, w, rfl, h2, h3⟩ := vals2 r
    exact ⟨_, v, w, rfl, h1, h2, h3⟩
theorem pylong_no {x c : Int} (h : c.natAbs < 1073741824) : Builtin.divisionGoesByPylong x c = false := by
  unfold Builtin.divisionGoesByPylong
  have hd : ¬ (if (c == 0) = true then 0 else c.natAbs.log2 / 30 + 1) > 300 := by
    split
    · omega
    · rename_i h0
      have hc : c.natAbs ≠ 0 := fun e => h0 (by rw [Int.natAbs_eq_zero.mp e]; rfl)
      have : c.natAbs.log2 < 30 := (Nat.log2_lt hc).mpr (by simpa using h)
      omega
  dsimp only
  rw [decide_eq_false hd]
  rfl
theorem prg_3 {e : Expr} {es : List Expr} {ta : TA} {p pos : Pos} (hg : Gl X "range") (hm : X.mg "range" = none) (ha : PA X (e :: es) ta) (he : starEach (e :: es) X.env = (false, eval e X.env) :: starEach es X.env := by rfl) (hpl : (backTo pos (starEach es X.env)).any (·.1) = false := by rfl) :
    PRg3 X (.Call (.Name "range" p) (e :: es) [] pos) (tRg3 ta) := by
  intro pins s σ H Q I h
  refine PyProof.Rows.Call_ (ld_blt I hg hm (u := .type "range") (by rfl) (PyProof.Rows.callWith_type1 (thn (ha.run pos pins s σ H _ I h) fun us s1 ⟨vs, H1, I1, r1, q1⟩ => ?_) he hpl)) rfl
  obtain ⟨a, b, c, rfl, hc, ⟨h1, h2, h3, h4, h5⟩, q⟩ := q1
  obtain ⟨u, v, w, rfl, ⟨t1, rfl⟩, ⟨t2, rfl⟩, ⟨t3, rfl⟩⟩ := vals3 r1
  refine call_range_3 hc ⟨s1.heap.objs.size, a, b, c, t1, t2, t3, H1, rfl, Heap.get?_push_size _ rfl, ?_, q⟩ (.inl (pylong_no h5))
  exact I1.kept (t' := s1.toks) fun b o e => Heap.get?_push_of_some _ e
def rgC (a c : Int) (n : Nat) : List V := (List.range n).map fun (i : Nat) => .int (a + (i : Int) * c)
theorem vals_rgC {a c : Int} {n : Nat} {acc : Array Value} (h : ItemsOf (fun i v => ∃ t, v = Value.int (a + (i : Int) * c) t) acc n) : Vals (rgC a c n) acc.toList := by
  refine vals_of_at ?_ fun j x u hx hu => ?_
  · show (rgC a c n).length = acc.toList.length
    rw [show acc.toList.length = acc.size from rfl, h.1]
    simp [rgC]
  · have hj : j < n := by
      have := (List.getElem?_eq_some_iff.mp hx).1
      simpa [rgC] using this
    obtain ⟨t, rfl⟩ := h.2 j u (by rw [← Array.getElem?_toList]; exact hu)
    unfold rgC at hx
    rw [List.getElem?_map, List.getElem?_range hj] at hx
    cases hx
    exact ⟨t, rfl⟩
def tTupRg3 (te : St → Hp → (Int → Int → Int → Hp → Prop) → Prop) : TE := fun σ H Q => te σ H fun a b c H1 => ∃ n, RgC a b c n ∧ n ≤ 2 ^ 24 ∧ ∀ q, H1 q = none → Q (.ref q) (upd H1 q (.tup (rgC a c n)))
def tLstRg3 (te : St → Hp → (Int → Int → Int → Hp → Prop) → Prop) : TE := fun σ H Q => te σ H fun a b c H1 => ∃ n, RgC a b c n ∧ n ≤ 2 ^ 24 ∧ ∀ q, H1 q = none → Q (.ref q) (upd H1 q (.lst (rgC a c n)))
theorem pe_tupRg3 {e : Expr} {te : St → Hp → (Int → Int → Int → Hp → Prop) → Prop} {p pos : Pos} (hc : X.calm = true) (hg : Gl X "tuple") (hm : X.mg "tuple" = none) (he : PRg3 X e te) (hs : starEach [e] X.env = (false, eval e X.env) :: starEach [] X.env := by rfl) :
    PE X (.Call (.Name "tuple" p) [e] [] pos) (tTupRg3 te) := by
  refine ⟨fun pins s σ H Q I h => ?_⟩
  refine PyProof.Rows.Call_ (ld_blt I hg hm (u := .type "tuple") (by rfl) (PyProof.Rows.callWith_type1 ?_ hs rfl)) rfl
  rw [hs]
  refine Calls.spliced_cons (thn (he pins s σ H _ I h) fun x s1 ⟨r, a, b, c, t, u, v, H1, ex, hr, I1, n, hn, hz, q⟩ => Calls.spliced_nil ?_)
  subst ex
  obtain ⟨_, _, h3, h4⟩ := hn
  refine call_tuple_range (I1.ok.hd hc) hr h3 h4 hz fun h' tk acc hk hacc => ?_
  have I2 := I1.kept (t' := tk) hk
  have hzl : (rgC a c n).length ≤ sizeLine := by
    rw [show (rgC a c n).length = n by simp [rgC]]
    exact Nat.le_trans hz (by decide)
  refine ⟨.ref h'.objs.size, upd H1 h'.objs.size (.tup (rgC a c n)), I2.laid (t' := tk) (fun b o e => Heap.get?_push_of_some _ e) (Nat.le_refl _) ⟨hzl, acc.toList, vals_rgC hacc, ⟨_, Heap.get?_push_size _ rfl, rfl, _, rfl⟩⟩, rfl, q _ (I2.hok.fresh (Nat.le_refl _))⟩
theorem pe_listRg3 {e : Expr} {te : St → Hp → (Int → Int → Int → Hp → Prop) → Prop} {p pos : Pos} (hc : X.calm = true) (hg : Gl X "list") (hm : X.mg "list" = none) (he : PRg3 X e te) (hs : starEach [e] X.env = (false, eval e X.env) :: starEach [] X.env := by rfl) :
    PE X (.Call (.Name "list" p) [e] [] pos) (tLstRg3 te) := by
  refine ⟨fun pins s σ H Q I h => ?_⟩
  refine PyProof.Rows.Call_ (ld_blt I hg hm (u := .type "list") (by rfl) (PyProof.Rows.callWith_type1 ?_ hs rfl)) rfl
  rw [hs]
  refine Calls.spliced_cons (thn (he pins s σ H _ I h) fun x s1 ⟨r, a, b, c, t, u, v, H1, ex, hr, I1, n, hn, hz, q⟩ => Calls.spliced_nil ?_)
  subst ex
  obtain ⟨_, _, h3, h4⟩ := hn
  refine call_list_range (I1.ok.hd hc) hr h3 h4 hz fun h' tk acc c' hk hS hacc => ?_
  have hzl : (rgC a c n).length ≤ sizeLine := by
    rw [show (rgC a c n).length = n by simp [rgC]]
    exact Nat.le_trans hz (by decide)
  refine ⟨.ref s1.heap.objs.size, upd H1 s1.heap.objs.size (.lst (rgC a c n)), I1.laid (t' := tk) hk (Nat.le_refl _) ⟨hzl, acc.toList, c', vals_rgC hacc, hS⟩, rfl, q _ (I1.hok.fresh (Nat.le_refl _))⟩
/-! list(zip(x, y)), two lists of ints -/
theorem zipApart {n la lb : Nat} (h1 : la < n) (h2 : lb < n) : ZipApart (n + 4) (n + 2) (n + 3) n (n + 1) la lb where
  TIz := show (n + 2 : Nat) ≠ n + 4 by omega
  TOz := show (n + 3 : Nat) ≠ n + 4 by omega
  i1z := show (n : Nat) ≠ n + 4 by omega
  i2z := show (n + 1 : Nat) ≠ n + 4 by omega
  TITO := show (n + 2 : Nat) ≠ n + 3 by omega
  TIi1 := show (n + 2 : Nat) ≠ n by omega
  TIi2 := show (n + 2 : Nat) ≠ n + 1 by omega
  TOi1 := show (n + 3 : Nat) ≠ n by omega
  TOi2 := show (n + 3 : Nat) ≠ n + 1 by omega
  i12 := show (n : Nat) ≠ n + 1 by omega
  l1z := show (la : Nat) ≠ n + 4 by omega
  l1TO := show (la : Nat) ≠ n + 3 by omega
  l1i1 := show (la : Nat) ≠ n by omega
  l1i2 := show (la : Nat) ≠ n + 1 by omega
  l2z := show (lb : Nat) ≠ n + 4 by omega
  l2TO := show (lb : Nat) ≠ n + 3 by omega
  l2i1 := show (lb : Nat) ≠ n by omega
  l2i2 := show (lb : Nat) ≠ n + 1 by omega
theorem lt_off {n b : Nat} (h : b < n) : b ≠ n + 4 ∧ b ≠ n + 3 ∧ b ≠ n ∧ b ≠ n + 1 := ⟨by omega, by omega, by omega, by omega⟩
/-- the same heap with k places more, all of them free -/
theorem padded (h : Heap) : ∀ k : Nat, ∃ h2 : Heap, h2.objs.size = h.objs.size + k ∧ (∀ b o, h.get? b = some o → h2.get? b = some o) ∧ ∀ b o, h2.get? b = some o → h.get? b = some o
  | 0 => ⟨h, rfl, fun _ _ e => e, fun _ _ e => e⟩
  | k + 1 => by
    obtain ⟨h2, e1, e2, e3⟩ := padded h k
    refine ⟨h2.push { cls := .none, data := .freed }, by rw [Heap.size_push, e1]; rfl, fun b o e => Heap.get?_push_of_some _ (e2 b o e), fun b o e => e3 b o ?_⟩
    obtain ⟨objs, life⟩ := h2
    unfold Heap.push Heap.get? at e
    dsimp only at e
    rw [Array.getElem?_push] at e
    by_cases hb : b = objs.size
    · rw [if_pos hb] at e
      cases e
    · rw [if_neg hb] at e
      exact e
theorem paired_at {α β : Type} {R : α → β → Prop} : ∀ {as : List α} {qs : List β} {j : Nat} {t : α}, Paired R as qs → as[j]? = some t → ∃ q, qs[j]? = some q ∧ R t q
  | _ :: _, _ :: _, 0, _, .cons h _, e => by
    cases e
    exact ⟨_, rfl, h⟩
  | _ :: _, _ :: _, j + 1, _, .cons _ h, e => by
    obtain ⟨q, h1, h2⟩ := paired_at (j := j) h (by simpa using e)
    exact ⟨q, by simpa using h1, h2⟩
theorem kv_zip : ∀ (xs : List Int) (ys : List Int) (us : List Value), Vals (ys.map V.int) us → KV ((xs.zip ys).map fun p => ((Sum.inl p.1 : Key), V.int p.2)) ((xs.zip us).map fun p => ((Sum.inl p.1 : Key), p.2))
  | [], _, _, _ => .nil
  | _ :: _, [], [], _ => .nil
  | x :: xs, y :: ys, u :: us, .cons h1 h2 => .cons ⟨rfl, h1⟩ (kv_zip xs ys us h2)
def tLstZip (K : PySem.W.Frag) (t : TA) : TE := fun σ H Q => t σ H fun vs H1 => ∃ (la lb : Addr) (xs ys : List Int), vs = [.ref la, .ref lb] ∧ SqL K H1 la (xs.map V.int) ∧ SqL K H1 lb (ys.map V.int) ∧ xs.length = ys.length ∧ xs.length ≤ 1000000 ∧
  ∀ (D : Addr) (as : List Addr) (H2 : Hp), Ext H1 H2 → H2 D = some (.lst (as.map V.ref)) → as.length = xs.length → (∀ (j : Nat) (t : Addr), as[j]? = some t → ∃ x y, xs[j]? = some x ∧ ys[j]? = some y ∧ H2 t = some (.tup [.int x, .int y])) → Q (.ref D) H2
theorem pe_listZip {a : Expr} {es : List Expr} {ta : TA} {p pz zpos pos : Pos} (hc : X.calm = true) (hg : Gl X "list") (hm : X.mg "list" = none) (hg2 : Gl X "zip") (hm2 : X.mg "zip" = none) (ha : PA X (a :: es) ta)
    (hs : starEach [.Call (.Name "zip" pz) (a :: es) [] zpos] X.env = (false, eval (.Call (.Name "zip" pz) (a :: es) [] zpos) X.env) :: starEach [] X.env := by rfl) (he : starEach (a :: es) X.env = (false, eval a X.env) :: starEach es X.env := by rfl) (hpl : (backTo zpos (starEach es X.env)).any (·.1) = false := by rfl) :
    PE X (.Call (.Name "list" p) [.Call (.Name "zip" pz) (a :: es) [] zpos] [] pos) (tLstZip X.K ta) := by
  refine ⟨fun pins s σ H Q I h => ?_⟩
  refine PyProof.Rows.Call_ (ld_blt I hg hm (u := .type "list") (by rfl) (PyProof.Rows.callWith_type1 ?_ hs rfl)) rfl
  rw [hs]
  refine Calls.spliced_cons (PyProof.Rows.Call_ (ld_blt I hg2 hm2 (u := .type "zip") (by rfl) (PyProof.Rows.callWith_type1 (thn (ha.run zpos pins s σ H _ I h) fun us s1 ⟨vs, H1, I1, r1, q1⟩ => ?_) he hpl)) rfl)
  obtain ⟨la, lb, xs, ys, rfl, hxs, hys, hll, hz, q⟩ := q1
  obtain ⟨u1, u2, rfl, r1a, r1b⟩ := vals2 r1
  obtain rfl : u1 = Value.ref la := r1a
  obtain rfl : u2 = Value.ref lb := r1b
  obtain ⟨its1, rv1, pl1, _⟩ := I1.list hxs
  obtain ⟨its2, rv2, pl2, _⟩ := I1.list hys
  have hl1 : its1.length = xs.length := by rw [← rv1.length, List.length_map]
  have hl2 : its2.length = ys.length := by rw [← rv2.length, List.length_map]
  have lt1 : la < s1.heap.objs.size := by obtain ⟨o, _, e, _⟩ := pl1; exact Heap.lt_size e
  have lt2 : lb < s1.heap.objs.size := by obtain ⟨o, _, e, _⟩ := pl2; exact Heap.lt_size e
  refine call_zip_2 pl1.isList pl2.isList fun h2 z1 z2 z3 z4 z5 z6 z7 => Calls.spliced_nil ?_
  have I2 := I1.kept (t' := s1.toks) z7
  have D : ZipApart (s1.heap.objs.size + 4) (s1.heap.objs.size + 2) (s1.heap.objs.size + 3) s1.heap.objs.size (s1.heap.objs.size + 1) la lb := zipApart lt1 lt2
  have st : ZSt h2 (s1.heap.objs.size + 4) (s1.heap.objs.size + 2) (s1.heap.objs.size + 3) s1.heap.objs.size (s1.heap.objs.size + 1) la lb its1.toArray its2.toArray 0 := ⟨fun _ => ⟨_, _, z1, z3⟩, fun e => absurd e (Nat.lt_irrefl _), z2, z4, z5, (by obtain ⟨o, q1, q2⟩ := pl1.isList; exact ⟨o, z7 _ _ q1, q2⟩), (by obtain ⟨o, q1, q2⟩ := pl2.isList; exact ⟨o, z7 _ _ q1, q2⟩)⟩
  refine call_list_zip (n := xs.length) (s := { s1 with heap := h2 }) (I2.ok.hd hc) D (by simp; omega) (Nat.le_trans (Nat.succ_le_succ hz) (by decide)) st fun h3 acc c as k1 k2 k3 => ?_
  obtain ⟨hp, p1, p2, p3⟩ := padded s1.heap 5
  have I3 := I1.kept (h' := hp) (t' := s1.toks) p2
  have hk : ∀ b ob, hp.get? b = some ob → h3.get? b = some ob := fun b ob e => by
    have e1 := p3 b ob e
    obtain ⟨n1, n2, n3, n4⟩ := lt_off (Heap.lt_size e1)
    exact k1 b ob n1 n2 n3 n4 (z7 b ob e1)
  have hsz : hp.objs.size = h2.objs.size := by rw [p1, z6]
  have hG : W.KdxG (mixKind X.prog X.w) ((xs.zip its2).map fun p => ((Sum.inl p.1 : Key), p.2)) hp.objs.size h3 as := by
    rw [hsz]
    refine ⟨k3.rise, k3.above, fun j a hj => ?_⟩
    obtain ⟨x, y, hx, hy, hpair⟩ := k3.pairs j a hj
    have hx' : its1[j]? = some x := by simpa using hx
    have hy' : its2[j]? = some y := by simpa using hy
    obtain ⟨n, hn⟩ : ∃ n, xs[j]? = some n := ⟨_, List.getElem?_eq_getElem (by have := (List.getElem?_eq_some_iff.mp hx').1; omega)⟩
    obtain ⟨u, hu, ru⟩ := rv1.get (i := j) (x := .int n) (by rw [List.getElem?_map, hn]; rfl)
    rw [hx'] at hu
    cases hu
    obtain ⟨t, rfl⟩ := ru
    refine ⟨_, .inl n, y, ?_, ?_, hpair⟩
    · rw [List.getElem?_map, (List.getElem?_zip_eq_some (z := (n, y))).mpr ⟨hn, hy'⟩]
      rfl
    · show (n == n) = true
      exact beq_self_eq_true n
  have hal : as.length = ((xs.zip its2).map fun p => ((Sum.inl p.1 : Key), p.2)).length := by
    rw [k3.len, List.length_map, List.length_zip]
    omega
  obtain ⟨H3, e1, e2, e3, e4, e5, e6, I4⟩ := LiI.items_laid (kvs := (xs.zip ys).map fun p => ((Sum.inl p.1 : Key), V.int p.2)) (tk := s1.toks) (s := { s1 with heap := hp, toks := s1.toks }) I3 (by rw [List.length_map, List.length_zip]; exact Nat.le_trans (Nat.min_le_left _ _) (Nat.le_trans hz (by decide))) (kv_zip xs ys its2 rv2) hk (by rw [show ({ s1 with heap := hp, toks := s1.toks } : Shared).heap.objs.size = h2.objs.size from hsz]; exact k2) hal hG k3.acc
  refine ⟨.ref h2.objs.size, H3, I4, rfl, q h2.objs.size as H3 e1 ?_ k3.len fun j t hj => ?_⟩
  · rw [← hsz]
    exact e5
  · obtain ⟨q', h1, h2'⟩ := paired_at e6 hj
    rw [List.getElem?_map] at h1
    cases hz' : (xs.zip ys)[j]? with
    | none => rw [hz'] at h1; cases h1
    | some p =>
      rw [hz'] at h1
      cases h1
      obtain ⟨h3', h4'⟩ := List.getElem?_zip_eq_some.mp hz'
      exact ⟨p.1, p.2, h3', h4', h2'⟩
end
end L2

set_option Elab.async false
set_option maxRecDepth 100000
set_option maxHeartbeats 4000000
namespace L2
open PySem PySem.Spec PyProof.Rows
section
variable {X : Cx} {K : PySem.W.Frag}
theorem op_in_seqK (h : X.K = K) : OpR X (compareOp .In) (rIn K false) := by
  subst h
  exact op_in_seq
theorem op_notIn_seqK (h : X.K = K) : OpR X (compareOp .NotIn) (rIn K true) := by
  subst h
  exact op_notIn_seq
theorem inV_ints (a : Int) : ∀ ns : List Int, inV (.int a) (ns.map V.int) = decide (a ∈ ns)
  | [] => rfl
  | n :: ns => by
    have ih := inV_ints a ns
    unfold inV at ih ⊢
    rw [List.map_cons, List.any_cons, ih]
    have e : eqV (.int n) (.int a) = decide (n = a) := rfl
    rw [e, Bool.eq_iff_iff]
    simp
    constructor
    · rintro (e | e)
      · exact .inl e.symm
      · exact .inr e
    · rintro (e | e)
      · exact .inl e.symm
      · exact .inr e
theorem flat_ints {ns : List Int} : (ns.map V.int).all flatV = true := by
  rw [List.all_eq_true]
  intro v hv
  obtain ⟨n, _, rfl⟩ := List.mem_map.mp hv
  rfl
end
end L2

set_option Elab.async false
set_option maxRecDepth 100000
set_option maxHeartbeats 4000000
namespace K29
open PySem PySem.Spec PyProof.Rows L2
def top (i : Nat) : Stmt := PySem.Challenge.pw_wholeline_k29_roads_and_lulls_built.main.body.getD i (.Pass ⟨0, 0, 0, 0⟩)
abbrev s_BadPart_init : Stmt := inClass (top 3) 0
abbrev nm_BadPart_init : List Str := ["self", "part"]
abbrev pm_BadPart_init : List Str := ["self", "part"]
theorem sc_BadPart_init : FnScope nm_BadPart_init pm_BadPart_init (defScope s_BadPart_init) := ⟨rfl, rfl, rfl, by decide +kernel, rfl, by decide +kernel, by decide +kernel⟩

abbrev s_BadBox_init : Stmt := inClass (top 4) 0
abbrev nm_BadBox_init : List Str := ["self", "index"]
abbrev pm_BadBox_init : List Str := ["self", "index"]
theorem sc_BadBox_init : FnScope nm_BadBox_init pm_BadBox_init (defScope s_BadBox_init) := ⟨rfl, rfl, rfl, by decide +kernel, rfl, by decide +kernel, by decide +kernel⟩

abbrev s_is_integer : Stmt := top 6
abbrev nm_is_integer : List Str := ["value"]
abbrev pm_is_integer : List Str := ["value"]
theorem sc_is_integer : FnScope nm_is_integer pm_is_integer (defScope s_is_integer) := ⟨rfl, rfl, rfl, by decide +kernel, rfl, by decide +kernel, by decide +kernel⟩

abbrev s_is_between : Stmt := top 7
abbrev nm_is_between : List Str := ["value", "low", "high"]
abbrev pm_is_between : List Str := ["value", "low", "high"]
theorem sc_is_between : FnScope nm_is_between pm_is_between (defScope s_is_between) := ⟨rfl, rfl, rfl, by decide +kernel, rfl, by decide +kernel, by decide +kernel⟩

abbrev s_is_list : Stmt := top 8
abbrev nm_is_list : List Str := ["value"]
abbrev pm_is_list : List Str := ["value"]
theorem sc_is_list : FnScope nm_is_list pm_is_list (defScope s_is_list) := ⟨rfl, rfl, rfl, by decide +kernel, rfl, by decide +kernel, by decide +kernel⟩

abbrev s_is_list_of : Stmt := top 9
abbrev nm_is_list_of : List Str := ["value", "low", "high"]
abbrev pm_is_list_of : List Str := ["value", "low", "high"]
theorem sc_is_list_of : FnScope nm_is_list_of pm_is_list_of (defScope s_is_list_of) := ⟨rfl, rfl, rfl, by decide +kernel, rfl, by decide +kernel, by decide +kernel⟩

abbrev s_is_tuple_of : Stmt := top 10
abbrev nm_is_tuple_of : List Str := ["value", "many"]
abbrev pm_is_tuple_of : List Str := ["value", "many"]
theorem sc_is_tuple_of : FnScope nm_is_tuple_of pm_is_tuple_of (defScope s_is_tuple_of) := ⟨rfl, rfl, rfl, by decide +kernel, rfl, by decide +kernel, by decide +kernel⟩

abbrev s_is_begin : Stmt := top 16
abbrev nm_is_begin : List Str := ["value"]
abbrev pm_is_begin : List Str := ["value"]
theorem sc_is_begin : FnScope nm_is_begin pm_is_begin (defScope s_is_begin) := ⟨rfl, rfl, rfl, by decide +kernel, rfl, by decide +kernel, by decide +kernel⟩

abbrev s_are_delays : Stmt := top 17
abbrev nm_are_delays : List Str := ["least", "most"]
abbrev pm_are_delays : List Str := ["least", "most"]
theorem sc_are_delays : FnScope nm_are_delays pm_are_delays (defScope s_are_delays) := ⟨rfl, rfl, rfl, by decide +kernel, rfl, by decide +kernel, by decide +kernel⟩

abbrev s_is_box : Stmt := top 18
abbrev nm_is_box : List Str := ["value", "least", "most", "near", "far", "shortest", "longest"]
abbrev pm_is_box : List Str := ["value", "least", "most"]
theorem sc_is_box : FnScope nm_is_box pm_is_box (defScope s_is_box) := ⟨rfl, rfl, rfl, by decide +kernel, rfl, by decide +kernel, by decide +kernel⟩

abbrev s_Way_init : Stmt := inClass (top 19) 0
abbrev nm_Way_init : List Str := ["self", "begin", "least", "most", "boxes", "index", "box"]
abbrev pm_Way_init : List Str := ["self", "begin", "least", "most", "boxes"]
theorem sc_Way_init : FnScope nm_Way_init pm_Way_init (defScope s_Way_init) := ⟨rfl, rfl, rfl, by decide +kernel, rfl, by decide +kernel, by decide +kernel⟩

abbrev s_Way_window : Stmt := inClass (top 19) 1
abbrev nm_Way_window : List Str := ["self"]
abbrev pm_Way_window : List Str := ["self"]
theorem sc_Way_window : FnScope nm_Way_window pm_Way_window (defScope s_Way_window) := ⟨rfl, rfl, rfl, by decide +kernel, rfl, by decide +kernel, by decide +kernel⟩

abbrev s_Way_eq : Stmt := inClass (top 19) 3
abbrev nm_Way_eq : List Str := ["self", "other"]
abbrev pm_Way_eq : List Str := ["self", "other"]
theorem sc_Way_eq : FnScope nm_Way_eq pm_Way_eq (defScope s_Way_eq) := ⟨rfl, rfl, rfl, by decide +kernel, rfl, by decide +kernel, by decide +kernel⟩

abbrev s_are_rows : Stmt := top 25
abbrev nm_are_rows : List Str := ["value", "row"]
abbrev pm_are_rows : List Str := ["value"]
theorem sc_are_rows : FnScope nm_are_rows pm_are_rows (defScope s_are_rows) := ⟨rfl, rfl, rfl, by decide +kernel, rfl, by decide +kernel, by decide +kernel⟩

abbrev s_spread_of : Stmt := top 29
abbrev nm_spread_of : List Str := ["box"]
abbrev pm_spread_of : List Str := ["box"]
theorem sc_spread_of : FnScope nm_spread_of pm_spread_of (defScope s_spread_of) := ⟨rfl, rfl, rfl, by decide +kernel, rfl, by decide +kernel, by decide +kernel⟩

abbrev s_slack_of : Stmt := top 30
abbrev nm_slack_of : List Str := ["box"]
abbrev pm_slack_of : List Str := ["box"]
theorem sc_slack_of : FnScope nm_slack_of pm_slack_of (defScope s_slack_of) := ⟨rfl, rfl, rfl, by decide +kernel, rfl, by decide +kernel, by decide +kernel⟩

abbrev s_check_lull : Stmt := top 31
abbrev nm_check_lull : List Str := ["delay", "turn", "losses"]
abbrev pm_check_lull : List Str := ["delay", "turn", "losses"]
theorem sc_check_lull : FnScope nm_check_lull pm_check_lull (defScope s_check_lull) := ⟨rfl, rfl, rfl, by decide +kernel, rfl, by decide +kernel, by decide +kernel⟩

abbrev s_check_quiet : Stmt := top 32
abbrev nm_check_quiet : List Str := ["quiet"]
abbrev pm_check_quiet : List Str := ["quiet"]
theorem sc_check_quiet : FnScope nm_check_quiet pm_check_quiet (defScope s_check_quiet) := ⟨rfl, rfl, rfl, by decide +kernel, rfl, by decide +kernel, by decide +kernel⟩

abbrev s_Road_init : Stmt := inClass (top 33) 0
abbrev nm_Road_init : List Str := ["self", "way", "last", "turn", "losses", "rows", "quiet", "period", "first", "end"]
abbrev pm_Road_init : List Str := ["self", "way", "last", "turn", "losses", "rows", "quiet", "period"]
theorem sc_Road_init : FnScope nm_Road_init pm_Road_init (defScope s_Road_init) := ⟨rfl, rfl, rfl, by decide +kernel, rfl, by decide +kernel, by decide +kernel⟩

abbrev s_Road_eq : Stmt := inClass (top 33) 1
abbrev nm_Road_eq : List Str := ["self", "other"]
abbrev pm_Road_eq : List Str := ["self", "other"]
theorem sc_Road_eq : FnScope nm_Road_eq pm_Road_eq (defScope s_Road_eq) := ⟨rfl, rfl, rfl, by decide +kernel, rfl, by decide +kernel, by decide +kernel⟩

abbrev s_Lull_init : Stmt := inClass (top 34) 0
abbrev nm_Lull_init : List Str := ["self", "delay", "turn", "losses", "quiet"]
abbrev pm_Lull_init : List Str := ["self", "delay", "turn", "losses", "quiet"]
theorem sc_Lull_init : FnScope nm_Lull_init pm_Lull_init (defScope s_Lull_init) := ⟨rfl, rfl, rfl, by decide +kernel, rfl, by decide +kernel, by decide +kernel⟩

abbrev s_Lull_eq : Stmt := inClass (top 34) 1
abbrev nm_Lull_eq : List Str := ["self", "other"]
abbrev pm_Lull_eq : List Str := ["self", "other"]
theorem sc_Lull_eq : FnScope nm_Lull_eq pm_Lull_eq (defScope s_Lull_eq) := ⟨rfl, rfl, rfl, by decide +kernel, rfl, by decide +kernel, by decide +kernel⟩

abbrev s_lull_of : Stmt := top 35
abbrev nm_lull_of : List Str := ["road"]
abbrev pm_lull_of : List Str := ["road"]
theorem sc_lull_of : FnScope nm_lull_of pm_lull_of (defScope s_lull_of) := ⟨rfl, rfl, rfl, by decide +kernel, rfl, by decide +kernel, by decide +kernel⟩

abbrev s__law_pool : Stmt := top 37
abbrev nm__law_pool : List Str := ["_law_script", "_law_k", "_law_cell", "_law_big", "_law_mixed"]
abbrev pm__law_pool : List Str := ["_law_script", "_law_k"]
theorem sc__law_pool : FnScope nm__law_pool pm__law_pool (defScope s__law_pool) := ⟨rfl, rfl, rfl, by decide +kernel, rfl, by decide +kernel, by decide +kernel⟩

abbrev s__law_take : Stmt := top 38
abbrev nm__law_take : List Str := ["_law_pool_here", "_law_bound", "_law_result"]
abbrev pm__law_take : List Str := ["_law_pool_here", "_law_bound"]
theorem sc__law_take : FnScope nm__law_take pm__law_take (defScope s__law_take) := ⟨rfl, rfl, rfl, by decide +kernel, rfl, by decide +kernel, by decide +kernel⟩

abbrev s__law_one : Stmt := top 39
abbrev nm__law_one : List Str := ["_law_pool_here", "_law_things"]
abbrev pm__law_one : List Str := ["_law_pool_here", "_law_things"]
theorem sc__law_one : FnScope nm__law_one pm__law_one (defScope s__law_one) := ⟨rfl, rfl, rfl, by decide +kernel, rfl, by decide +kernel, by decide +kernel⟩

abbrev s__law_road : Stmt := top 40
abbrev nm__law_road : List Str := ["_law_pool_here", "_law_most", "_law_origin", "_law_least", "_law_delay", "_law_boxes", "_law_turn", "_law_near", "_law_far", "_law_low", "_law_last", "_law_rows"]
abbrev pm__law_road : List Str := ["_law_pool_here", "_law_most"]
theorem sc__law_road : FnScope nm__law_road pm__law_road (defScope s__law_road) := ⟨rfl, rfl, rfl, by decide +kernel, rfl, by decide +kernel, by decide +kernel⟩

abbrev s__law_made : Stmt := top 41
abbrev nm__law_made : List Str := ["_law_plain", "_law_way"]
abbrev pm__law_made : List Str := ["_law_plain"]
theorem sc__law_made : FnScope nm__law_made pm__law_made (defScope s__law_made) := ⟨rfl, rfl, rfl, by decide +kernel, rfl, by decide +kernel, by decide +kernel⟩

abbrev s__law_told : Stmt := top 42
abbrev nm__law_told : List Str := ["_law_function", "e"]
abbrev pm__law_told : List Str := ["_law_function"]
theorem sc__law_told : FnScope nm__law_told pm__law_told (defScope s__law_told) := ⟨rfl, rfl, rfl, by decide +kernel, rfl, by decide +kernel, by decide +kernel⟩

abbrev s__law_lull_wrong : Stmt := top 43
abbrev nm__law_lull_wrong : List Str := ["_law_values", "_law_delay", "_law_turn", "_law_losses", "_law_quiet", "_law_name", "_law_value", "_law_low", "_law_high"]
abbrev pm__law_lull_wrong : List Str := ["_law_values"]
theorem sc__law_lull_wrong : FnScope nm__law_lull_wrong pm__law_lull_wrong (defScope s__law_lull_wrong) := ⟨rfl, rfl, rfl, by decide +kernel, rfl, by decide +kernel, by decide +kernel⟩

abbrev s__law_spoilt : Stmt := top 44
abbrev nm__law_spoilt : List Str := ["_law_pool_here", "_law_values", "_law_found", "_law_turn", "_law_spot"]
abbrev pm__law_spoilt : List Str := ["_law_pool_here", "_law_values"]
theorem sc__law_spoilt : FnScope nm__law_spoilt pm__law_spoilt (defScope s__law_spoilt) := ⟨rfl, rfl, rfl, by decide +kernel, rfl, by decide +kernel, by decide +kernel⟩

abbrev s__law_lulls_right : Stmt := top 45
abbrev nm__law_lulls_right : List Str := ["_law_pool_here", "_law_plain", "_law_values", "_law_wrong", "_law_made_here", "_law_changed", "_law_row", "_law_other"]
abbrev pm__law_lulls_right : List Str := ["_law_pool_here", "_law_plain"]
theorem sc__law_lulls_right : FnScope nm__law_lulls_right pm__law_lulls_right (defScope s__law_lulls_right) := ⟨rfl, rfl, rfl, by decide +kernel, rfl, by decide +kernel, by decide +kernel⟩

abbrev s__law_road_wrong : Stmt := top 46
abbrev nm__law_road_wrong : List Str := ["_law_plain", "_law_values", "_law_last", "_law_turn", "_law_losses", "_law_rows", "_law_quiet", "_law_period", "_law_low", "_law_high", "_law_name", "_law_value", "_law_least", "_law_most", "_law_count"]
abbrev pm__law_road_wrong : List Str := ["_law_plain", "_law_values"]
theorem sc__law_road_wrong : FnScope nm__law_road_wrong pm__law_road_wrong (defScope s__law_road_wrong) := ⟨rfl, rfl, rfl, by decide +kernel, rfl, by decide +kernel, by decide +kernel⟩

abbrev s__law_roads_right : Stmt := top 47
abbrev nm__law_roads_right : List Str := ["_law_pool_here", "_law_plain", "_law_way", "_law_values", "_law_wrong", "_law_made_here", "_law_lull"]
abbrev pm__law_roads_right : List Str := ["_law_pool_here", "_law_plain"]
theorem sc__law_roads_right : FnScope nm__law_roads_right pm__law_roads_right (defScope s__law_roads_right) := ⟨rfl, rfl, rfl, by decide +kernel, rfl, by decide +kernel, by decide +kernel⟩

abbrev s_law : Stmt := top 48
abbrev nm_law : List Str := ["_law_script", "_law_k", "_law_pool_here", "_law_plain", "_law_way", "_law_made_here", "_law_rows", "_law_other", "_law_spot", "_law_twin", "_law_same", "_law_slacks", "_law_spreads", "_law_box"]
abbrev pm_law : List Str := ["_law_script"]
theorem sc_law : FnScope nm_law pm_law (defScope s_law) := ⟨rfl, rfl, rfl, by decide +kernel, rfl, by decide +kernel, by decide +kernel⟩

structure Ad where
  (BadPart BadBox WholeError Way Road Lull T0 : Addr)
structure Txt (K : PySem.W.Frag) (mg : Str → Option Value) (A : Ad) : Prop where
  n_isinstance : mg "isinstance" = none
  n_int : mg "int" = none
  n_bool : mg "bool" = none
  n_list : mg "list" = none
  n_tuple : mg "tuple" = none
  n_len : mg "len" = none
  n_range : mg "range" = none
  n_max : mg "max" = none
  n_min : mg "min" = none
  n_enumerate : mg "enumerate" = none
  n_all : mg "all" = none
  g_MOST_BEGIN : ∃ t, mg "MOST_BEGIN" = some (.int 1000 t)
  g_MOST_DELAY : ∃ t, mg "MOST_DELAY" = some (.int 50 t)
  g_MOST_BOXES : ∃ t, mg "MOST_BOXES" = some (.int 3 t)
  g_MOST_KEEP : ∃ t, mg "MOST_KEEP" = some (.int 10000 t)
  g_MOST_TURN : ∃ t, mg "MOST_TURN" = some (.int 200 t)
  g_MOST_ROWS : ∃ t, mg "MOST_ROWS" = some (.int 3 t)
  g_MOST_PARCELS : ∃ t, mg "MOST_PARCELS" = some (.int 600 t)
  g_MOST_QUIET : ∃ t, mg "MOST_QUIET" = some (.int 500 t)
  g_MOST_LOST : ∃ t, mg "MOST_LOST" = some (.int 3 t)
  g_MOST_PERIOD : ∃ t, mg "MOST_PERIOD" = some (.int 200 t)
  Way : ClsX K mg "Way" A.Way
  w_begin : NoAttr K A.Way "begin"
  w_least : NoAttr K A.Way "least"
  w_most : NoAttr K A.Way "most"
  w_boxes : NoAttr K A.Way "boxes"
  Road : ClsX K mg "Road" A.Road
  r_way : NoAttr K A.Road "way"
  r_last : NoAttr K A.Road "last"
  r_turn : NoAttr K A.Road "turn"
  r_losses : NoAttr K A.Road "losses"
  r_rows : NoAttr K A.Road "rows"
  r_quiet : NoAttr K A.Road "quiet"
  r_period : NoAttr K A.Road "period"
  Lull : ClsX K mg "Lull" A.Lull
  c_delay : NoAttr K A.Lull "delay"
  c_turn : NoAttr K A.Lull "turn"
  c_losses : NoAttr K A.Lull "losses"
  c_quiet : NoAttr K A.Lull "quiet"
  BadPart : XAt K mg "BadPart" "part" A.BadPart s_BadPart_init "BadPart.__init__"
  BadBox : XAt K mg "BadBox" "index" A.BadBox s_BadBox_init "BadBox.__init__"
  g_WholeError : mg "WholeError" = some (.ref A.WholeError)
  x_pp : PySem.W.exmOne K (.ref A.BadPart) (.ref A.BadPart) = some true
  k_pw : PySem.W.kitOne K (.ref A.BadPart) (.ref A.WholeError) = some true
  t0 : ∀ H, SqT K H A.T0 []
section
variable {P : Program} {w : World} {K : PySem.W.Frag} {mg : Str → Option Value} {base : Heap} {A : Ad}
theorem ok_xp {f : Addr} {fd : FuncData} (F : Fun K "__init__" "BadPart.__init__" s_BadPart_init f fd) (T : Txt K mg A) : FnOk P w K mg base CX0 1 f fd ["self", "part"] (spXI A.BadPart "part") := by
  refine F.ok sc_BadPart_init (fun vs H Q E h => ?_) (fun cdv A' outer s H vs Q E hr h => ?_)
  · obtain ⟨a, y, rfl, _⟩ := h
    rfl
  · obtain ⟨a, y, rfl, ha, q⟩ := h
    refine ⟨_, pss_one (ps_ost (pv 0) (pv 1)), ?_⟩
    exact ⟨_, rfl, _, rfl, a, A.BadPart, rfl, T.BadPart.ox, T.BadPart.noA, .inl ⟨ha, fun dx h1 h2 => q dx h1 h2⟩⟩
theorem ok_xb {f : Addr} {fd : FuncData} (F : Fun K "__init__" "BadBox.__init__" s_BadBox_init f fd) (T : Txt K mg A) : FnOk P w K mg base CX0 1 f fd ["self", "index"] (spXI A.BadBox "index") := by
  refine F.ok sc_BadBox_init (fun vs H Q E h => ?_) (fun cdv A' outer s H vs Q E hr h => ?_)
  · obtain ⟨a, y, rfl, _⟩ := h
    rfl
  · obtain ⟨a, y, rfl, ha, q⟩ := h
    refine ⟨_, pss_one (ps_ost (pv 0) (pv 1)), ?_⟩
    exact ⟨_, rfl, _, rfl, a, A.BadBox, rfl, T.BadBox.ox, T.BadBox.noA, .inl ⟨ha, fun dx h1 h2 => q dx h1 h2⟩⟩
/-! kinds, told by the data -/
def spInteger (K : PySem.W.Frag) : Sp := fun vs H Q _ => ∃ v d, vs = [v] ∧ Dp K H v d ∧ Q (.bl (isIntD d && !isBoolD d)) H
theorem ok_integer {f : Addr} {fd : FuncData} (F : Fun K "is_integer" "is_integer" s_is_integer f fd) (T : Txt K mg A) : FnOk P w K mg base CX0 1 f fd pm_is_integer (spInteger K) := by
  refine F.ok sc_is_integer (fun vs H Q E h => ?_) (fun cdv A' outer s H vs Q E hr h => ?_)
  · obtain ⟨v, k, rfl, _⟩ := h
    rfl
  · obtain ⟨v, d, rfl, hk, q⟩ := h
    refine ⟨_, pss_one (ps_ret (pe_and (pe_callB call_isi (by rfl) T.n_isinstance (by decide +kernel) (pa_cons (pv 0) (pa_cons (pe_bltn (v := .ty "int") (by rfl) T.n_int (by decide +kernel) rfl) pa_nil))) (pe_one (pe_not (pe_callB call_isi (by rfl) T.n_isinstance (by decide +kernel) (pa_cons (pv 0) (pa_cons (pe_bltn (v := .ty "bool") (by rfl) T.n_bool (by decide +kernel) rfl) pa_nil))))))), ?_⟩
    refine ⟨v, rfl, v, .ty "int", .type (tnD d), .type "int", isIntD d, rfl, .ty _, dp_ty hk, kd_int, _, rfl, ?_⟩
    cases h1 : isIntD d with
    | true =>
      rw [h1] at q
      exact iteT ⟨v, rfl, v, .ty "bool", .type (tnD d), .type "bool", isBoolD d, rfl, .ty _, dp_ty hk, kd_bool, _, rfl, q⟩
    | false =>
      rw [h1] at q
      exact iteF q
def spBetween (K : PySem.W.Frag) : Sp := fun vs H Q _ => ∃ v d a b, vs = [v, .int a, .int b] ∧ Dp K H v d ∧ Q (.bl (betD d a b)) H
theorem ok_between {f : Addr} {fd : FuncData} (F : Fun K "is_between" "is_between" s_is_between f fd) (O_is_integer : Own P w K mg base CX0 "is_integer" 1 pm_is_integer (spInteger K)) : FnOk P w K mg base CX0 2 f fd pm_is_between (spBetween K) := by
  refine F.ok sc_is_between (fun vs H Q E h => ?_) (fun cdv A' outer s H vs Q E hr h => ?_)
  · obtain ⟨v, k, a, b, rfl, _⟩ := h
    rfl
  · obtain ⟨v, d, a, b, rfl, hk, q⟩ := h
    refine ⟨_, pss_one (ps_ret (pe_and (pe_own O_is_integer (hr.mono (by decide)) pass0 (pa_cons (pv 0) pa_nil)) (pe_one (pe_chain op_le op_le (pv 1) (pv 0) (pv 2))))), ?_⟩
    refine ⟨v, rfl, v, d, rfl, hk, _, rfl, ?_⟩
    cases h1 : (isIntD d && !isBoolD d) with
    | true =>
      obtain ⟨n, rfl⟩ := int_yes h1
      obtain rfl := dp_int hk
      refine iteT ⟨_, rfl, _, rfl, _, _, rfl, rfl, _, rfl, ?_⟩
      rw [bet_int] at q
      cases h2 : decide (a ≤ n) with
      | true =>
        rw [h2] at q
        exact iteT ⟨_, rfl, _, _, rfl, rfl, q⟩
      | false =>
        rw [h2] at q
        exact iteF q
    | false =>
      rw [bet_not h1] at q
      exact iteF q
def spIsList (K : PySem.W.Frag) : Sp := fun vs H Q _ => ∃ v t k, vs = [v] ∧ (∀ H', Ext H H' → TyX K H' v t) ∧ PySem.W.kitAny K t [.type "list", .type "tuple"] = some k ∧ ∀ H', Ext H H' → Q (.bl k) H'
theorem ok_isList {f : Addr} {fd : FuncData} (F : Fun K "is_list" "is_list" s_is_list f fd) (T : Txt K mg A) : FnOk P w K mg base CX0 1 f fd pm_is_list (spIsList K) := by
  refine F.ok sc_is_list (fun vs H Q E h => ?_) (fun cdv A' outer s H vs Q E hr h => ?_)
  · obtain ⟨v, t, k, rfl, _⟩ := h
    rfl
  · obtain ⟨v, t, k, rfl, hk, hs, q⟩ := h
    refine ⟨_, pss_one (ps_ret (pe_callB call_isiT (by rfl) T.n_isinstance (by decide +kernel) (pa_cons (pv 0) (pa_cons (pe_tup (pa_cons (pe_bltn (v := .ty "list") (by rfl) T.n_list (by decide +kernel) rfl) (pa_cons (pe_bltn (v := .ty "tuple") (by rfl) T.n_tuple (by decide +kernel) rfl) pa_nil))) pa_nil)))), ?_⟩
    refine ⟨v, rfl, by show 2 ≤ sizeLine; decide, fun p hp => ?_⟩
    exact ⟨v, p, [.ty "list", .ty "tuple"], t, [.type "list", .type "tuple"], k, rfl, upd_same, .cons (.ty _) (.cons (.ty _) .nil), hk _ (Ext.upd hp), hs, q _ (Ext.upd hp)⟩
def spListOf (K : PySem.W.Frag) : Sp := fun vs H Q _ => ∃ v t k a b xs, vs = [v, .int a, .int b] ∧ (∀ H', Ext H H' → TyX K H' v t) ∧ PySem.W.kitAny K t [.type "list", .type "tuple"] = some k ∧ (k = true → ∃ p, v = .ref p ∧ (SqL K H p xs ∨ SqT K H p xs)) ∧
  ∀ H', Ext H H' → Q (.bl (k && (decide (a ≤ (xs.length : Int)) && decide ((xs.length : Int) ≤ b)))) H'
theorem dp_lenD {H : Hp} {xs : List V} {ds : List PyData} {d : PyData} (ha : DpAll K H xs ds) (h : d = .list ds ∨ d = .tuple ds) : lenD d = xs.length := by
  rw [dps_len ha]
  rcases h with rfl | rfl <;> rfl
theorem ok_listOf {f : Addr} {fd : FuncData} (F : Fun K "is_list_of" "is_list_of" s_is_list_of f fd) (T : Txt K mg A) (O_is_list : Own P w K mg base CX0 "is_list" 1 pm_is_list (spIsList K)) : FnOk P w K mg base CX0 2 f fd pm_is_list_of (spListOf K) := by
  refine F.ok sc_is_list_of (fun vs H Q E h => ?_) (fun cdv A' outer s H vs Q E hr h => ?_)
  · obtain ⟨v, t, k, a, b, xs, rfl, _⟩ := h
    rfl
  · obtain ⟨v, t, k, a, b, xs, rfl, hk, hs, hq, q⟩ := h
    refine ⟨_, pss_one (ps_ret (pe_and (pe_own O_is_list (hr.mono (by decide)) pass0 (pa_cons (pv 0) pa_nil)) (pe_one (pe_chain op_le op_le (pv 1) (pe_callB call_len_seq (by rfl) T.n_len (by decide +kernel) (pa_cons (pv 0) pa_nil)) (pv 2))))), ?_⟩
    refine ⟨v, rfl, v, t, k, rfl, hk, hs, fun H1 e1 => ⟨_, rfl, ?_⟩⟩
    have q1 := q H1 e1
    cases k with
    | false => exact iteF q1
    | true =>
      obtain ⟨p, rfl, hx⟩ := hq rfl
      refine iteT ⟨_, rfl, _, rfl, p, xs, rfl, hx.imp (fun h => h.ext e1) (fun h => h.ext e1), _, _, rfl, rfl, _, rfl, ?_⟩
      cases h2 : decide (a ≤ (xs.length : Int)) with
      | true =>
        rw [h2] at q1
        exact iteT ⟨_, rfl, _, _, rfl, rfl, q1⟩
      | false =>
        rw [h2] at q1
        exact iteF q1
/-- from the data -/
theorem listOf_key {H : Hp} {v : V} {d : PyData} (h : Dp K H v d) : ∃ t xs, (∀ H', Ext H H' → TyX K H' v t) ∧ PySem.W.kitAny K t [.type "list", .type "tuple"] = some (isSeqD d) ∧ (isSeqD d = true → ∃ p, v = .ref p ∧ (SqL K H p xs ∨ SqT K H p xs)) ∧
    ∀ a b : Int, (isSeqD d && (decide (a ≤ (xs.length : Int)) && decide ((xs.length : Int) ≤ b))) = (isSeqD d && (decide (a ≤ (lenD d : Int)) && decide ((lenD d : Int) ≤ b))) := by
  cases hs : isSeqD d with
  | false => exact ⟨_, [], fun H' e => dp_ty (dp_ext e _ _ h), by rw [kd_seq, hs], (fun z => nomatch z), fun a b => rfl⟩
  | true =>
    obtain ⟨p, xs, ds, rfl, hx, ha, hd⟩ := dp_seq h hs
    exact ⟨_, xs, fun H' e => dp_ty (dp_ext e _ _ h), by rw [kd_seq, hs], fun _ => ⟨p, rfl, hx⟩, fun a b => by rw [dp_lenD ha hd]⟩
def spTupleOf (K : PySem.W.Frag) : Sp := fun vs H Q _ => ∃ v d a, vs = [v, .int a] ∧ Dp K H v d ∧ Q (.bl (isTupD d && decide ((lenD d : Int) = a))) H
theorem dvi {a b : Int} : decide (V.int a = V.int b) = decide (a = b) := by simp
theorem ok_tupleOf {f : Addr} {fd : FuncData} (F : Fun K "is_tuple_of" "is_tuple_of" s_is_tuple_of f fd) (T : Txt K mg A) : FnOk P w K mg base CX0 1 f fd pm_is_tuple_of (spTupleOf K) := by
  refine F.ok sc_is_tuple_of (fun vs H Q E h => ?_) (fun cdv A' outer s H vs Q E hr h => ?_)
  · obtain ⟨v, d, a, rfl, _⟩ := h
    rfl
  · obtain ⟨v, d, a, rfl, hk, q⟩ := h
    refine ⟨_, pss_one (ps_ret (pe_and (pe_callB call_isi (by rfl) T.n_isinstance (by decide +kernel) (pa_cons (pv 0) (pa_cons (pe_bltn (v := .ty "tuple") (by rfl) T.n_tuple (by decide +kernel) rfl) pa_nil))) (pe_one (pe_cmpR op_eq (pe_callB call_len_seq (by rfl) T.n_len (by decide +kernel) (pa_cons (pv 0) pa_nil)) (pv 1) (nomark _))))), ?_⟩
    refine ⟨v, rfl, v, .ty "tuple", .type (tnD d), .type "tuple", isTupD d, rfl, .ty _, dp_ty hk, kd_tup, _, rfl, ?_⟩
    cases h1 : isTupD d with
    | true =>
      rw [h1] at q
      obtain ⟨p, xs, ds, rfl, hx, ha, hd⟩ := dp_tup hk h1
      rw [dp_lenD ha (.inr hd)] at q
      refine iteT ⟨_, rfl, p, xs, rfl, .inr hx, _, rfl, rfl, ?_⟩
      show Q (.bl (decide (V.int (xs.length : Int) = V.int a))) H
      rw [dvi]
      exact q
    | false =>
      rw [h1] at q
      exact iteF q
/-! what a way is made of -/
def beginD (d : PyData) : Bool := isNoneD d || betD d 0 1000
def spBegin (K : PySem.W.Frag) : Sp := fun vs H Q _ => ∃ v d, vs = [v] ∧ Dp K H v d ∧ Q (.bl (beginD d)) H
theorem ok_begin {f : Addr} {fd : FuncData} (F : Fun K "is_begin" "is_begin" s_is_begin f fd) (T : Txt K mg A) (O_is_between : Own P w K mg base CX0 "is_between" 2 pm_is_between (spBetween K)) : FnOk P w K mg base CX0 3 f fd pm_is_begin (spBegin K) := by
  refine F.ok sc_is_begin (fun vs H Q E h => ?_) (fun cdv A' outer s H vs Q E hr h => ?_)
  · obtain ⟨v, d, rfl, _⟩ := h
    rfl
  · obtain ⟨v, d, rfl, hk, q⟩ := h
    refine ⟨_, pss_one (ps_ret (pe_or (pe_cmpR op_isN (pv 0) (pe_non) (nomark _)) (pe_one (pe_own O_is_between (hr.mono (by decide)) pass0 (pa_cons (pv 0) (pa_cons (pe_int) (pa_cons (pe_gint T.g_MOST_BEGIN) pa_nil))))))), ?_⟩
    cases hk with
    | non => exact ⟨_, rfl, rfl, _, rfl, iteT q⟩
    | bl b => exact ⟨_, rfl, rfl, _, rfl, iteF ⟨_, rfl, _, _, 0, 1000, rfl, .bl b, q⟩⟩
    | int i => exact ⟨_, rfl, rfl, _, rfl, iteF ⟨_, rfl, _, _, 0, 1000, rfl, .int i, q⟩⟩
    | str b => exact ⟨_, rfl, rfl, _, rfl, iteF ⟨_, rfl, _, _, 0, 1000, rfl, .str b, q⟩⟩
    | lst a b => exact ⟨_, rfl, rfl, _, rfl, iteF ⟨_, rfl, _, _, 0, 1000, rfl, .lst a b, q⟩⟩
    | tup a b => exact ⟨_, rfl, rfl, _, rfl, iteF ⟨_, rfl, _, _, 0, 1000, rfl, .tup a b, q⟩⟩
def delaysD : PyData → PyData → Bool
  | .int l, .int m => decide (1 ≤ l) && decide (l ≤ m) && decide (m ≤ 50)
  | _, _ => false
def spDelays (K : PySem.W.Frag) : Sp := fun vs H Q _ => ∃ v u d e, vs = [v, u] ∧ Dp K H v d ∧ Dp K H u e ∧ Q (.bl (delaysD d e)) H
theorem delays_m {d e : PyData} (h : betD e 1 50 = false) : delaysD d e = false := by
  cases e <;> first | (cases d <;> rfl) | skip
  rename_i m
  cases d <;> first | rfl | skip
  rename_i l
  rw [bet_int] at h
  simp only [delaysD]
  simp at h ⊢
  omega
theorem delays_l {d : PyData} {m : Int} (h1 : 1 ≤ m ∧ m ≤ 50) : delaysD d (.int m) = betD d 1 m := by
  cases d <;> first | rfl | skip
  rename_i l
  rw [bet_int]
  simp only [delaysD]
  rw [decide_eq_true h1.2, Bool.and_true]
theorem ok_delays {f : Addr} {fd : FuncData} (F : Fun K "are_delays" "are_delays" s_are_delays f fd) (T : Txt K mg A) (O_is_between : Own P w K mg base CX0 "is_between" 2 pm_is_between (spBetween K)) : FnOk P w K mg base CX0 3 f fd pm_are_delays (spDelays K) := by
  refine F.ok sc_are_delays (fun vs H Q E h => ?_) (fun cdv A' outer s H vs Q E hr h => ?_)
  · obtain ⟨v, u, d, e, rfl, _⟩ := h
    rfl
  · obtain ⟨v, u, d, e, rfl, hk, hu, q⟩ := h
    refine ⟨_, pss_one (ps_ret (pe_and (pe_own O_is_between (hr.mono (by decide)) pass0 (pa_cons (pv 1) (pa_cons (pe_int) (pa_cons (pe_gint T.g_MOST_DELAY) pa_nil)))) (pe_one (pe_own O_is_between (hr.mono (by decide)) pass0 (pa_cons (pv 0) (pa_cons (pe_int) (pa_cons (pv 1) pa_nil))))))), ?_⟩
    refine ⟨u, rfl, u, e, 1, 50, rfl, hu, _, rfl, ?_⟩
    cases h1 : betD e 1 50 with
    | false =>
      rw [delays_m h1] at q
      exact iteF q
    | true =>
      obtain ⟨m, rfl, m1, m2⟩ := bet_yes h1
      obtain rfl := dp_int hu
      rw [delays_l ⟨m1, m2⟩] at q
      exact iteT ⟨v, rfl, _, rfl, v, d, 1, m, rfl, hk, q⟩
end
end K29

set_option Elab.async false
set_option maxRecDepth 100000
set_option maxHeartbeats 4000000
namespace K29
open PySem PySem.Spec PyProof.Rows L2
section
variable {P : Program} {w : World} {K : PySem.W.Frag} {mg : Str → Option Value} {base : Heap} {A : Ad}
def boxD (d : PyData) (l m : Int) : Bool := match d with
  | .tuple [.int n, .int f, .int s, .int g] => decide (0 ≤ n ∧ n ≤ f ∧ f ≤ m ∧ n ≤ l ∧ 1 ≤ s ∧ s ≤ g ∧ g ≤ 10000)
  | _ => false
theorem box_f {a b c d : PyData} {l m : Int} (h : betD b 0 m = false) : boxD (.tuple [a, b, c, d]) l m = false := by
  cases a <;> first | rfl | skip
  cases b <;> first | rfl | skip
  cases c <;> first | rfl | skip
  cases d <;> first | rfl | skip
  rw [bet_int] at h
  simp at h
  simp only [boxD]
  rw [decide_eq_false (by omega)]
theorem box_n {a c d : PyData} {f l m : Int} (h : betD a 0 f = false) : boxD (.tuple [a, .int f, c, d]) l m = false := by
  cases a <;> first | rfl | skip
  cases c <;> first | rfl | skip
  cases d <;> first | rfl | skip
  rw [bet_int] at h
  simp at h
  simp only [boxD]
  rw [decide_eq_false (by omega)]
theorem box_l {c d : PyData} {n f l m : Int} (h : l < n) : boxD (.tuple [.int n, .int f, c, d]) l m = false := by
  cases c <;> first | rfl | skip
  cases d <;> first | rfl | skip
  simp only [boxD]
  rw [decide_eq_false (by omega)]
theorem box_g {c d : PyData} {n f l m : Int} (h : betD d 1 10000 = false) : boxD (.tuple [.int n, .int f, c, d]) l m = false := by
  cases c <;> first | rfl | skip
  cases d <;> first | rfl | skip
  rw [bet_int] at h
  simp at h
  simp only [boxD]
  rw [decide_eq_false (by omega)]
theorem box_s {c : PyData} {n f g l m : Int} (h : 0 ≤ n ∧ n ≤ f ∧ f ≤ m ∧ n ≤ l ∧ g ≤ 10000) : boxD (.tuple [.int n, .int f, c, .int g]) l m = betD c 1 g := by
  cases c <;> first | rfl | skip
  simp only [boxD]
  rw [bet_int, Bool.eq_iff_iff]
  simp
  omega
theorem box_t {d : PyData} {l m : Int} (h : (isTupD d && decide ((lenD d : Int) = 4)) = false) : boxD d l m = false := by
  unfold boxD
  split
  · exact absurd h (by simp [isTupD, lenD])
  · rfl
def spBoxOk (K : PySem.W.Frag) : Sp := fun vs H Q _ => ∃ v d l m, vs = [v, .int l, .int m] ∧ Dp K H v d ∧ Q (.bl (boxD d l m)) H
theorem ok_box {f : Addr} {fd : FuncData} (F : Fun K "is_box" "is_box" s_is_box f fd) (T : Txt K mg A) (O_is_between : Own P w K mg base CX0 "is_between" 2 pm_is_between (spBetween K)) (O_is_tuple_of : Own P w K mg base CX0 "is_tuple_of" 1 pm_is_tuple_of (spTupleOf K)) : FnOk P w K mg base CX0 3 f fd pm_is_box (spBoxOk K) := by
  refine F.ok sc_is_box (fun vs H Q E h => ?_) (fun cdv A' outer s H vs Q E hr h => ?_)
  · obtain ⟨v, d, l, m, rfl, _⟩ := h
    rfl
  · obtain ⟨v, d, l, m, rfl, hk, q⟩ := h
    refine ⟨_, pss_cons (ps_if (pt_not (pt_val (pe_own O_is_tuple_of (hr.mono (by decide)) pass0 (pa_cons (pv 0) (pa_cons (pe_int) pa_nil))))) (pss_one (ps_ret (pe_bl))) (pss_nil))
      (pss_cons (ps_asg (pv 0) (pg_tup rfl (pgs_cons (pg_name (i := 3) sc_is_box.nd rfl (Or.inl rfl)) (pgs_cons (pg_name (i := 4) sc_is_box.nd rfl (Or.inl rfl)) (pgs_cons (pg_name (i := 5) sc_is_box.nd rfl (Or.inl rfl)) (pgs_cons (pg_name (i := 6) sc_is_box.nd rfl (Or.inl rfl)) (pgs_nil)))))))
      (pss_cons (ps_if (PW.pt (pw_or (pt_not (pt_val (pe_own O_is_between (hr.mono (by decide)) pass0 (pa_cons (pv 4) (pa_cons (pe_int) (pa_cons (pv 2) pa_nil)))))) (pw_or (pt_not (pt_val (pe_own O_is_between (hr.mono (by decide)) pass0 (pa_cons (pv 3) (pa_cons (pe_int) (pa_cons (pv 4) pa_nil)))))) (pw_or1 (pt_cmpR op_gt (pv 3) (pv 1) (nomark _)))))) (pss_one (ps_ret (pe_bl))) (pss_nil))
      (pss_one (ps_ret (pe_and (pe_own O_is_between (hr.mono (by decide)) pass0 (pa_cons (pv 6) (pa_cons (pe_int) (pa_cons (pe_gint T.g_MOST_KEEP) pa_nil)))) (pe_one (pe_own O_is_between (hr.mono (by decide)) pass0 (pa_cons (pv 5) (pa_cons (pe_int) (pa_cons (pv 6) pa_nil)))))))))), ?_⟩
    refine ⟨v, rfl, v, d, 4, rfl, hk, _, rfl, ?_⟩
    cases h1 : (isTupD d && decide ((lenD d : Int) = 4)) with
    | false =>
      rw [box_t h1] at q
      exact iteT q
    | true =>
      refine iteF ?_
      rw [Bool.and_eq_true, decide_eq_true_eq] at h1
      obtain ⟨p, xs, ds, rfl, hx, ha, rfl⟩ := dp_tup hk h1.1
      have hl : ds.length = 4 := by
        have z : ((ds.length : Nat) : Int) = 4 := h1.2
        omega
      match ds, hl, ha, q with
      | [da, db, dc, dd], _, ha, q =>
        cases ha with
        | @cons va _ _ _ ha1 ha =>
          cases ha with
          | @cons vb _ _ _ hb1 ha =>
            cases ha with
            | @cons vc _ _ _ hc1 ha =>
              cases ha with
              | @cons vd _ _ _ hd1 ha =>
                cases ha
                refine ⟨_, rfl, p, _, rfl, hx, rfl, ?_⟩
                refine ⟨_, _, rfl, _, _, rfl, _, _, rfl, _, _, rfl, rfl, ?_⟩
                refine ⟨vb, rfl, _, rfl, vb, db, 0, m, rfl, hb1, _, rfl, ?_⟩
                cases h2 : betD db 0 m with
                | false =>
                  rw [box_f h2] at q
                  exact iteT q
                | true =>
                  refine iteF ?_
                  obtain ⟨f, rfl, f0, fm⟩ := bet_yes h2
                  obtain rfl := dp_int hb1
                  refine ⟨va, rfl, _, rfl, va, da, 0, f, rfl, ha1, _, rfl, ?_⟩
                  cases h3 : betD da 0 f with
                  | false =>
                    rw [box_n h3] at q
                    exact iteT q
                  | true =>
                    refine iteF ?_
                    obtain ⟨n, rfl, n0, nf⟩ := bet_yes h3
                    obtain rfl := dp_int ha1
                    refine ⟨_, rfl, _, rfl, _, _, rfl, rfl, _, rfl, ?_⟩
                    by_cases h4 : n > l
                    · rw [decide_eq_true h4]
                      rw [box_l h4] at q
                      exact iteT q
                    · rw [decide_eq_false h4]
                      refine iteF ?_
                      refine ⟨vd, rfl, vd, dd, 1, 10000, rfl, hd1, _, rfl, ?_⟩
                      cases h5 : betD dd 1 10000 with
                      | false =>
                        rw [box_g h5] at q
                        exact iteF q
                      | true =>
                        obtain ⟨g, rfl, g1, g2⟩ := bet_yes h5
                        obtain rfl := dp_int hd1
                        rw [box_s ⟨n0, nf, fm, by omega, g2⟩] at q
                        exact iteT ⟨vc, rfl, _, rfl, vc, dc, 1, g, rfl, hc1, q⟩
/-! ### Way -/
def itemsD : PyData → Option (List PyData) | .list ds => some ds | .tuple ds => some ds | _ => none
/-- what is wrong first: a part's word or a box's place -/
def wayDue (b l m x : PyData) : Option (Str ⊕ Nat) :=
  if beginD b = false then some (.inl "begin") else if delaysD l m = false then some (.inl "delays") else
    if (isSeqD x && (decide ((0 : Int) ≤ (lenD x : Int)) && decide ((lenD x : Int) ≤ 3))) = false then some (.inl "boxes") else
    match l, m, itemsD x with
    | .int l, .int m, some ds => (ds.findIdx? fun d => !boxD d l m).map .inr
    | _, _, _ => none
def wF (b l m x : V) : List (Str × V) := [("begin", b), ("least", l), ("most", m), ("boxes", x)]
/-- a way at p: its begin, delays, and the data of its boxes -/
def WayAt (K : PySem.W.Frag) (A : Ad) (H : Hp) (p : Addr) (b l m : V) (ds : List PyData) : Prop := ∃ dx T xs, H p = some (.ins A.Way dx (wF b l m (.ref T))) ∧ SqT K H T xs ∧ DpAll K H xs ds
def spWayInit (K : PySem.W.Frag) (A : Ad) : Sp := fun vs H Q E => ∃ (p dx : Addr) (vb vl vm vx : V) (b l m x : PyData), vs = [.ref p, vb, vl, vm, vx] ∧ H p = some (.ins A.Way dx []) ∧ Dp K H vb b ∧ Dp K H vl l ∧ Dp K H vm m ∧ Dp K H vx x ∧
  (∀ s, wayDue b l m x = some (.inl s) → ∀ H', Ext H H' → ∀ e, H' e = none → E (.ref A.BadPart) (some e) (upd H' e (.xd [("part", .str s)]))) ∧
  (∀ i, wayDue b l m x = some (.inr i) → ∀ H', Ext H H' → ∀ e, H' e = none → E (.ref A.BadBox) (some e) (upd H' e (.xd [("index", .int (i : Nat))]))) ∧
  (wayDue b l m x = none → ∀ ds H', itemsD x = some ds → (∃ T xs, H' p = some (.ins A.Way dx (wF vb vl vm (.ref T))) ∧ SqT K H' T xs ∧ DpAll K H' xs ds) → (∀ x o, x ≠ p → H x = some o → H' x = some o) → Q .non H')
theorem find_at {ds : List PyData} {f : PyData → Bool} {i : Nat} {d : PyData} (h0 : ∀ (j : Nat) (d : PyData), j < i → ds[j]? = some d → f d = false) (hd : ds[i]? = some d) (h : f d = true) : ds.findIdx? f = some i := by
  induction ds generalizing i with
  | nil => cases hd
  | cons x xs ih =>
    rw [List.findIdx?_cons]
    cases i with
    | zero =>
      cases hd
      rw [h]
      rfl
    | succ i =>
      rw [h0 0 x (Nat.succ_pos _) rfl]
      have z := ih (i := i) (fun j d hj hd => h0 (j + 1) d (Nat.succ_lt_succ hj) hd) hd
      rw [z]
      rfl
theorem find_no {ds : List PyData} {f : PyData → Bool} (h0 : ∀ (j : Nat) (d : PyData), ds[j]? = some d → f d = false) : ds.findIdx? f = none := by
  rw [List.findIdx?_eq_none_iff]
  intro x hx
  obtain ⟨j, hj⟩ := List.mem_iff_getElem?.mp hx
  exact h0 j x hj
theorem delays_yes {d e : PyData} (h : delaysD d e = true) : ∃ l m, d = .int l ∧ e = .int m ∧ 1 ≤ l ∧ l ≤ m ∧ m ≤ 50 := by
  cases d <;> first | cases h | skip
  cases e <;> first | cases h | skip
  simp only [delaysD, Bool.and_eq_true, decide_eq_true_eq] at h
  exact ⟨_, _, rfl, rfl, h.1.1, h.1.2, h.2⟩
section
variable {H H' : Hp} {p a C dx : Addr} {fs : List (Str × V)} {xs : List V}
theorem sqL_mut (hp : H p = some (.ins C dx fs)) (e : ∀ x o, x ≠ p → H x = some o → H' x = some o) (h : SqL K H a xs) : SqL K H' a xs := by
  rcases h with (h | ⟨o, h⟩) | h
  · exact .inl (.inl (e a _ (fun z => by rw [z, hp] at h; cases h) h))
  · exact .inl (.inr ⟨o, e a _ (fun z => by rw [z, hp] at h; cases h) h⟩)
  · exact .inr h
theorem sqT_mut (hp : H p = some (.ins C dx fs)) (e : ∀ x o, x ≠ p → H x = some o → H' x = some o) (h : SqT K H a xs) : SqT K H' a xs := by
  rcases h with (h | ⟨o, h⟩) | h
  · exact .inl (.inl (e a _ (fun z => by rw [z, hp] at h; cases h) h))
  · exact .inl (.inr ⟨o, e a _ (fun z => by rw [z, hp] at h; cases h) h⟩)
  · exact .inr h
mutual
theorem dp_mut (hp : H p = some (.ins C dx fs)) (e : ∀ x o, x ≠ p → H x = some o → H' x = some o) : ∀ (d : PyData) (v : V), Dp K H v d → Dp K H' v d
  | .none, _, h => by cases h; exact .non
  | .bool _, _, h => by cases h; exact .bl _
  | .int _, _, h => by cases h; exact .int _
  | .str _, _, h => by cases h; exact .str _
  | .list ds, _, h => by
    cases h with
    | lst hs ha => exact .lst (sqL_mut hp e hs) (dps_mut hp e ds _ ha)
  | .tuple ds, _, h => by
    cases h with
    | tup hs ha => exact .tup (sqT_mut hp e hs) (dps_mut hp e ds _ ha)
  | .dict _, _, h => by cases h
theorem dps_mut (hp : H p = some (.ins C dx fs)) (e : ∀ x o, x ≠ p → H x = some o → H' x = some o) : ∀ (ds : List PyData) (vs : List V), DpAll K H vs ds → DpAll K H' vs ds
  | [], _, h => by cases h; exact .nil
  | d :: ds, _, h => by
    cases h with
    | cons h1 h2 => exact .cons (dp_mut hp e d _ h1) (dps_mut hp e ds _ h2)
end
end
theorem ok_wayInit {f : Addr} {fd : FuncData} (F : FunD K "__init__" "Way.__init__" (defArgs s_Way_init) (defBody s_Way_init) (defScope s_Way_init) [.ref A.T0] [] f fd) (T : Txt K mg A)
    (O_is_begin : Own P w K mg base CX0 "is_begin" 3 pm_is_begin (spBegin K)) (O_are_delays : Own P w K mg base CX0 "are_delays" 3 pm_are_delays (spDelays K)) (O_is_list_of : Own P w K mg base CX0 "is_list_of" 2 pm_is_list_of (spListOf K))
    (O_is_box : Own P w K mg base CX0 "is_box" 3 pm_is_box (spBoxOk K)) (X_BadPart : XCls P w K mg base "BadPart" "part" A.BadPart) (X_BadBox : XCls P w K mg base "BadBox" "index" A.BadBox) : FnOk P w K mg base (L2.CX P w) 5 f fd pm_Way_init (spWayInit K A) := by
  refine F.ok sc_Way_init (fun vs H Q E h => ?_) (fun cdv A' outer s H vs Q E hr h => ?_)
  · obtain ⟨_, _, _, _, _, _, _, _, _, _, rfl, _⟩ := h
    rfl
  · obtain ⟨p, dx, vb, vl, vm, vx, b, l, m, x, rfl, hp, hb, hl, hm, hx, hEp, hEb, hQ⟩ := h
    refine ⟨_, pss_cons (ps_if (pt_not (pt_val (pe_own O_is_begin (hr.mono (by decide)) pass0 (pa_cons (pv 1) pa_nil)))) (pss_one (ps_raise rfl (takes_of rfl rfl rfl rfl) (pmk_X X_BadPart (hr.mono (by decide)) (pe_str) rfl))) (pss_nil))
      (pss_cons (ps_if (pt_not (pt_val (pe_own O_are_delays (hr.mono (by decide)) pass0 (pa_cons (pv 2) (pa_cons (pv 3) pa_nil))))) (pss_one (ps_raise rfl (takes_of rfl rfl rfl rfl) (pmk_X X_BadPart (hr.mono (by decide)) (pe_str) rfl))) (pss_nil))
      (pss_cons (ps_if (pt_not (pt_val (pe_own O_is_list_of (hr.mono (by decide)) pass0 (pa_cons (pv 4) (pa_cons (pe_int) (pa_cons (pe_gint T.g_MOST_BOXES) pa_nil)))))) (pss_one (ps_raise rfl (takes_of rfl rfl rfl rfl) (pmk_X X_BadPart (hr.mono (by decide)) (pe_str) rfl))) (pss_nil))
      (pss_cons (ps_for (passes_of rfl) rfl (pi_enSq rfl T.n_enumerate (pa_cons (pv 4) pa_nil)) (pg_tup rfl (pgs_cons (pg_name (i := 5) sc_Way_init.nd rfl (Or.inl rfl)) (pgs_cons (pg_name (i := 6) sc_Way_init.nd rfl (Or.inl rfl)) (pgs_nil)))) (pss_one (ps_if (pt_not (pt_val (pe_own O_is_box (hr.mono (by decide)) pass0 (pa_cons (pv 6) (pa_cons (pv 2) (pa_cons (pv 3) pa_nil)))))) (pss_one (ps_raise rfl (takes_of rfl rfl rfl rfl) (pmk_X X_BadBox (hr.mono (by decide)) (pv 5) rfl))) (pss_nil))))
      (pss_cons (ps_fld (pv 0) (pv 1) rfl)
      (pss_cons (ps_fld (pv 0) (pv 2) rfl)
      (pss_cons (ps_fld (pv 0) (pv 3) rfl)
      (pss_one (ps_fld (pv 0) (pe_callTy call_tuple_of (by rfl) T.n_tuple (by decide +kernel) (pa_cons (pv 4) pa_nil)) rfl)))))))), ?_⟩
    refine ⟨vb, rfl, vb, b, rfl, hb, _, rfl, ?_⟩
    cases h1 : beginD b with
    | false => exact iteT (mkX_fin fun e he => hEp _ (by unfold wayDue; rw [if_pos h1]) _ Ext.rfl' e he)
    | true =>
      refine iteF ?_
      refine ⟨vl, rfl, vm, rfl, vl, vm, l, m, rfl, hl, hm, _, rfl, ?_⟩
      cases h2 : delaysD l m with
      | false => exact iteT (mkX_fin fun e he => hEp _ (by unfold wayDue; rw [h1, if_neg (by decide), if_pos h2]) _ Ext.rfl' e he)
      | true =>
        refine iteF ?_
        obtain ⟨li, mi, rfl, rfl, l1, lm, m50⟩ := delays_yes h2
        obtain rfl := dp_int hl
        obtain rfl := dp_int hm
        obtain ⟨tx, ix, k1, k2, k3, k4⟩ := listOf_key hx
        refine ⟨vx, rfl, vx, tx, isSeqD x, 0, 3, ix, rfl, k1, k2, k3, fun H1 e1 => ⟨_, rfl, ?_⟩⟩
        rw [k4]
        cases h3 : (isSeqD x && (decide ((0 : Int) ≤ (lenD x : Int)) && decide ((lenD x : Int) ≤ 3))) with
        | false => exact iteT (mkX_fin fun e he => hEp _ (by unfold wayDue; rw [h1, if_neg (by decide), h2, if_neg (by decide), if_pos h3]) _ e1 e he)
        | true =>
          refine iteF ?_
          have h3' := (Bool.and_eq_true_iff.mp h3).1
          obtain ⟨a, xs, ds, rfl, hsq, ha, hd⟩ := dp_seq (dp_ext e1 _ _ hx) h3'
          have hit : itemsD x = some ds := by rcases hd with rfl | rfl <;> rfl
          have due : wayDue b (.int li) (.int mi) x = (ds.findIdx? fun d => !boxD d li mi).map .inr := by
            unfold wayDue
            rw [h1, if_neg (by decide), h2, if_neg (by decide), h3, if_neg (by decide), hit]
          rw [due] at hEp hEb hQ
          have small : xs.length ≤ 3 := by
            have z := (Bool.and_eq_true_iff.mp (Bool.and_eq_true_iff.mp h3).2).2
            rw [dp_lenD ha hd, decide_eq_true_eq] at z
            omega
          refine ⟨_, rfl, a, rfl, ?_⟩
          refine for_enSq (xs := xs) hsq (fun i σ' H' => Ext H1 H' ∧ (∃ o5 o6, σ' = [some (.ref p), some vb, some (.int li), some (.int mi), some (.ref a), o5, o6]) ∧ ∀ j d, j < i → ds[j]? = some d → boxD d li mi = true)
            ⟨Ext.rfl', ⟨_, _, rfl⟩, fun j d hj _ => absurd hj (Nat.not_lt_zero _)⟩ (fun i σ' H' pv => pv.1) (fun i v σ' H' T' hi pv hT => ?_) (fun σ' H' pv => ?_)
          · obtain ⟨e2, ⟨o5, o6, rfl⟩, hok⟩ := pv
            refine ⟨T', _, rfl, SqT.of upd_same, rfl, ?_⟩
            have e3 := e2.upd' (o := .tup [.int (i : Nat), v]) hT
            obtain ⟨d, hdi, hdv⟩ := dps_get (dps_ext e3 _ _ ha) hi
            refine ⟨_, _, rfl, _, _, rfl, rfl, ?_⟩
            refine ⟨v, rfl, _, rfl, _, rfl, v, d, li, mi, rfl, hdv, _, rfl, ?_⟩
            cases h4 : boxD d li mi with
            | false =>
              refine iteT ⟨_, rfl, mkX_fin fun e he => hEb i ?_ _ (e1.trans e3) e he⟩
              rw [find_at (f := fun d => !boxD d li mi) (fun j d hj hd => by rw [hok j d hj hd]; rfl) hdi (by rw [h4]; rfl)]
              rfl
            | true =>
              refine iteF ⟨e3, ⟨_, _, rfl⟩, fun j d' hj hd' => ?_⟩
              rcases Nat.lt_succ_iff_lt_or_eq.mp hj with hj | rfl
              · exact hok j d' hj hd'
              · rw [hdi] at hd'
                cases hd'
                exact h4
          · obtain ⟨e2, ⟨o5, o6, rfl⟩, hok⟩ := pv
            have hnone : ((ds.findIdx? fun d => !boxD d li mi).map Sum.inr : Option (Str ⊕ Nat)) = none := by
              rw [find_no (f := fun d => !boxD d li mi) fun j d hd => ?_]
              · rfl
              · have hj : j < xs.length := by
                  rw [dps_len ha]
                  exact (List.getElem?_eq_some_iff.mp hd).1
                rw [hok j d hj hd]
                rfl
            have e12 := e1.trans e2
            have hp2 := e12 _ _ hp
            refine ⟨_, rfl, _, rfl, p, A.Way, dx, _, rfl, hp2, T.Way.cl, T.w_begin, (by show 0 < 1000; decide), ?_⟩
            refine ⟨_, rfl, _, rfl, p, A.Way, dx, _, rfl, upd_same, T.Way.cl, T.w_least, (by show 1 < 1000; decide), ?_⟩
            refine ⟨_, rfl, _, rfl, p, A.Way, dx, _, rfl, upd_same, T.Way.cl, T.w_most, (by show 2 < 1000; decide), ?_⟩
            have hm3 : ∀ o y, y ≠ p → H' y = some o → (upd (upd (upd H' p (.ins A.Way dx (putF "begin" vb []))) p (.ins A.Way dx (putF "least" (.int li) (putF "begin" vb [])))) p (.ins A.Way dx (putF "most" (.int mi) (putF "least" (.int li) (putF "begin" vb []))))) y = some o := fun o y hy h => by
              rw [upd_ne hy, upd_ne hy, upd_ne hy]
              exact h
            have hp3 : (upd (upd (upd H' p (.ins A.Way dx (putF "begin" vb []))) p (.ins A.Way dx (putF "least" (.int li) (putF "begin" vb [])))) p (.ins A.Way dx (putF "most" (.int mi) (putF "least" (.int li) (putF "begin" vb []))))) p = some (.ins A.Way dx (putF "most" (.int mi) (putF "least" (.int li) (putF "begin" vb [])))) := upd_same
            have hda : DpAll K H' xs ds := dps_ext e2 _ _ ha
            generalize upd (upd (upd H' p (.ins A.Way dx (putF "begin" vb []))) p (.ins A.Way dx (putF "least" (.int li) (putF "begin" vb [])))) p (.ins A.Way dx (putF "most" (.int mi) (putF "least" (.int li) (putF "begin" vb [])))) = H3 at hm3 hp3 ⊢
            refine ⟨_, rfl, a, xs, rfl, ?_⟩
            rcases hsq with hsq | hsq
            · refine .inl ⟨sqL_mut hp2 (fun y o => hm3 o y) (hsq.ext e2), fun t ht => ⟨_, rfl, p, A.Way, dx, _, rfl, Ext.upd ht _ _ hp3, T.Way.cl, T.w_boxes, (by show 3 < 1000; decide), ?_⟩⟩
              have ntp : t ≠ p := fun z => by rw [z, hp3] at ht; cases ht
              refine hQ hnone ds _ hit ⟨t, xs, upd_same, SqT.of (by rw [upd_ne ntp]; exact upd_same), ?_⟩ fun y o hy h => ?_
              · exact dps_mut hp2 (fun y o hy h => by rw [upd_ne hy]; exact Ext.upd ht _ _ (hm3 o y hy h)) _ _ hda
              · rw [upd_ne hy]
                exact Ext.upd ht _ _ (hm3 o y hy (e12 _ _ h))
            · refine .inr ⟨sqT_mut hp2 (fun y o => hm3 o y) (hsq.ext e2), _, rfl, p, A.Way, dx, _, rfl, hp3, T.Way.cl, T.w_boxes, (by show 3 < 1000; decide), ?_⟩
              refine hQ hnone ds _ hit ⟨a, xs, upd_same, sqT_mut hp2 (fun y o hy h => by rw [upd_ne hy]; exact hm3 o y hy h) (hsq.ext e2), ?_⟩ fun y o hy h => ?_
              · exact dps_mut hp2 (fun y o hy h => by rw [upd_ne hy]; exact hm3 o y hy h) _ _ hda
              · rw [upd_ne hy]
                exact hm3 o y hy (e12 _ _ h)
end
end K29

set_option Elab.async false
set_option maxRecDepth 100000
set_option maxHeartbeats 4000000
namespace K29
open PySem PySem.Spec PyProof.Rows L2
abbrev Bx := Int × Int × Int × Int
def bxD (q : Bx) : PyData := .tuple [.int q.1, .int q.2.1, .int q.2.2.1, .int q.2.2.2]
def bxOk (q : Bx) (l m : Int) : Prop := 0 ≤ q.1 ∧ q.1 ≤ q.2.1 ∧ q.2.1 ≤ m ∧ q.1 ≤ l ∧ 1 ≤ q.2.2.1 ∧ q.2.2.1 ≤ q.2.2.2 ∧ q.2.2.2 ≤ 10000
theorem box_yes {d : PyData} {l m : Int} (h : boxD d l m = true) : ∃ q, d = bxD q ∧ bxOk q l m := by
  unfold boxD at h
  split at h
  · rename_i n f s g
    rw [decide_eq_true_eq] at h
    exact ⟨(n, f, s, g), rfl, h⟩
  · cases h
theorem box_ok {q : Bx} {l m : Int} (h : bxOk q l m) : boxD (bxD q) l m = true := decide_eq_true h
theorem boxes_yes {l m : Int} : ∀ {ds : List PyData}, (∀ d ∈ ds, boxD d l m = true) → ∃ bs : List Bx, ds = bs.map bxD ∧ ∀ q ∈ bs, bxOk q l m
  | [], _ => ⟨[], rfl, fun _ h => nomatch h⟩
  | d :: ds, h => by
    obtain ⟨q, rfl, hq⟩ := box_yes (h d List.mem_cons_self)
    obtain ⟨bs, rfl, hb⟩ := boxes_yes (ds := ds) fun d hd => h d (List.mem_cons_of_mem _ hd)
    refine ⟨q :: bs, rfl, fun r hr => ?_⟩
    rcases List.mem_cons.mp hr with rfl | hr
    · exact hq
    · exact hb r hr
def bD : Option Int → PyData | some n => .int n | none => .none
def bV : Option Int → V | some n => .int n | none => .non
def bOk (b : Option Int) : Prop := ∀ n, b = some n → 0 ≤ n ∧ n ≤ 1000
theorem begin_yes {d : PyData} (h : beginD d = true) : ∃ b, d = bD b ∧ bOk b := by
  cases d with
  | none => exact ⟨none, rfl, fun n h => nomatch h⟩
  | int n =>
    have h' : betD (.int n) 0 1000 = true := h
    obtain ⟨m, e, h1, h2⟩ := bet_yes h'
    cases e
    exact ⟨some n, rfl, fun k e => by cases e; exact ⟨h1, h2⟩⟩
  | _ => cases h
theorem begin_ok {b : Option Int} (h : bOk b) : beginD (bD b) = true := by
  cases b with
  | none => rfl
  | some n =>
    obtain ⟨h1, h2⟩ := h n rfl
    show betD (.int n) 0 1000 = true
    rw [bet_int, decide_eq_true h1, decide_eq_true h2]
    rfl
theorem due_begin {b l m x : PyData} (h : beginD b = false) : wayDue b l m x = some (.inl "begin") := by
  unfold wayDue
  rw [if_pos h]
theorem due_none {b l m x : PyData} (h : wayDue b l m x = none) : ∃ (bo : Option Int) (li mi : Int) (bs : List Bx), b = bD bo ∧ bOk bo ∧ l = .int li ∧ m = .int mi ∧ (1 ≤ li ∧ li ≤ mi ∧ mi ≤ 50) ∧ itemsD x = some (bs.map bxD) ∧ bs.length ≤ 3 ∧ ∀ q ∈ bs, bxOk q li mi := by
  unfold wayDue at h
  cases h1 : beginD b with
  | false => rw [h1, if_pos rfl] at h; cases h
  | true =>
    rw [h1, if_neg (by decide)] at h
    cases h2 : delaysD l m with
    | false => rw [h2, if_pos rfl] at h; cases h
    | true =>
      rw [h2, if_neg (by decide)] at h
      obtain ⟨li, mi, rfl, rfl, d1, d2, d3⟩ := delays_yes h2
      cases h3 : (isSeqD x && (decide ((0 : Int) ≤ (lenD x : Int)) && decide ((lenD x : Int) ≤ 3))) with
      | false => rw [h3, if_pos rfl] at h; cases h
      | true =>
        rw [h3, if_neg (by decide)] at h
        obtain ⟨bo, rfl, hb⟩ := begin_yes h1
        have h4 := (Bool.and_eq_true_iff.mp (Bool.and_eq_true_iff.mp h3).2).2
        rw [decide_eq_true_eq] at h4
        have fin : ∀ ds : List PyData, itemsD x = some ds → lenD x = ds.length → (ds.findIdx? fun d => !boxD d li mi) = none → ∃ (bo' : Option Int) (li' mi' : Int) (bs : List Bx), bD bo = bD bo' ∧ bOk bo' ∧ PyData.int li = .int li' ∧ PyData.int mi = .int mi' ∧ (1 ≤ li' ∧ li' ≤ mi' ∧ mi' ≤ 50) ∧ itemsD x = some (bs.map bxD) ∧ bs.length ≤ 3 ∧ ∀ q ∈ bs, bxOk q li' mi' := by
          intro ds hi hl hf
          rw [List.findIdx?_eq_none_iff] at hf
          obtain ⟨bs, rfl, hbs⟩ := boxes_yes (ds := ds) (l := li) (m := mi) fun d hd => by
            have z := hf d hd
            cases hz : boxD d li mi with
            | true => rfl
            | false => rw [hz] at z; cases z
          refine ⟨bo, li, mi, bs, rfl, hb, rfl, rfl, ⟨d1, d2, d3⟩, hi, ?_, hbs⟩
          rw [hl, List.length_map] at h4
          omega
        cases x with
        | list ds =>
          refine fin ds rfl rfl ?_
          have h' : (ds.findIdx? fun d => !boxD d li mi).map (Sum.inr (α := Str)) = none := h
          rwa [Option.map_eq_none_iff] at h'
        | tuple ds =>
          refine fin ds rfl rfl ?_
          have h' : (ds.findIdx? fun d => !boxD d li mi).map (Sum.inr (α := Str)) = none := h
          rwa [Option.map_eq_none_iff] at h'
        | _ => cases h3
theorem due_ok {bo : Option Int} {li mi : Int} {bs : List Bx} {x : PyData} (hb : bOk bo) (hd : 1 ≤ li ∧ li ≤ mi ∧ mi ≤ 50) (hx : x = .list (bs.map bxD) ∨ x = .tuple (bs.map bxD)) (hl : bs.length ≤ 3) (hbs : ∀ q ∈ bs, bxOk q li mi) : wayDue (bD bo) (.int li) (.int mi) x = none := by
  have h2 : delaysD (.int li) (.int mi) = true := by
    simp only [delaysD]
    rw [decide_eq_true hd.1, decide_eq_true hd.2.1, decide_eq_true hd.2.2]
    rfl
  have hf : ((bs.map bxD).findIdx? fun d => !boxD d li mi) = none := by
    rw [List.findIdx?_eq_none_iff]
    intro d hd
    obtain ⟨q, hq, rfl⟩ := List.mem_map.mp hd
    rw [box_ok (hbs q hq)]
    rfl
  have h4 : decide (((bs.map bxD).length : Int) ≤ 3) = true := by
    rw [List.length_map]
    exact decide_eq_true (by omega)
  have h5 : decide ((0 : Int) ≤ ((bs.map bxD).length : Int)) = true := decide_eq_true (by omega)
  unfold wayDue
  rw [begin_ok hb, if_neg (by decide), h2, if_neg (by decide)]
  rcases hx with rfl | rfl
  · have h3 : (isSeqD (.list (bs.map bxD)) && (decide ((0 : Int) ≤ (lenD (.list (bs.map bxD)) : Int)) && decide ((lenD (.list (bs.map bxD)) : Int) ≤ 3))) = true := by
      show (true && (decide ((0 : Int) ≤ ((bs.map bxD).length : Int)) && decide (((bs.map bxD).length : Int) ≤ 3))) = true
      rw [h4, h5]
      rfl
    rw [h3, if_neg (by decide)]
    show ((bs.map bxD).findIdx? fun d => !boxD d li mi).map (Sum.inr (α := Str)) = none
    rw [hf]
    rfl
  · have h3 : (isSeqD (.tuple (bs.map bxD)) && (decide ((0 : Int) ≤ (lenD (.tuple (bs.map bxD)) : Int)) && decide ((lenD (.tuple (bs.map bxD)) : Int) ≤ 3))) = true := by
      show (true && (decide ((0 : Int) ≤ ((bs.map bxD).length : Int)) && decide (((bs.map bxD).length : Int) ≤ 3))) = true
      rw [h4, h5]
      rfl
    rw [h3, if_neg (by decide)]
    show ((bs.map bxD).findIdx? fun d => !boxD d li mi).map (Sum.inr (α := Str)) = none
    rw [hf]
    rfl
theorem eqv_bx (q r : Bx) : PyData.eqv (bxD q) (bxD r) = decide (q = r) := by
  obtain ⟨a, b, c, d⟩ := q
  obtain ⟨a', b', c', d'⟩ := r
  have h := eqv_ints [a, b, c, d] [a', b', c', d']
  show PyData.eqvAll [.int a, .int b, .int c, .int d] [.int a', .int b', .int c', .int d'] = _
  rw [show PyData.eqvAll [.int a, .int b, .int c, .int d] [.int a', .int b', .int c', .int d'] = decide ([a, b, c, d] = [a', b', c', d']) from h]
  simp
theorem eqv_bxs : ∀ (bs cs : List Bx), PyData.eqvAll (bs.map bxD) (cs.map bxD) = decide (bs = cs)
  | [], [] => rfl
  | [], _ :: _ => rfl
  | _ :: _, [] => rfl
  | b :: bs, c :: cs => by
    show (PyData.eqv (bxD b) (bxD c) && PyData.eqvAll (bs.map bxD) (cs.map bxD)) = _
    rw [eqv_bx, eqv_bxs bs cs, Bool.eq_iff_iff]
    simp
theorem lay_bxs : ∀ bs : List Bx, PyData.canLayAll0 (bs.map bxD) = true ∧ PyData.depthAll (bs.map bxD) ≤ 1
  | [] => ⟨rfl, Nat.zero_le _⟩
  | b :: bs => by
    obtain ⟨h1, h2⟩ := lay_bxs bs
    constructor
    · show ((bxD b).canLay0 && PyData.canLayAll0 (bs.map bxD)) = true
      rw [h1]
      rfl
    · show max (bxD b).depth (PyData.depthAll (bs.map bxD)) ≤ 1
      exact Nat.max_le.mpr ⟨Nat.le_refl 1, h2⟩
theorem shp_bxs (bs : List Bx) : SeqAt.shaped (.tuple (bs.map bxD)) = true := by
  obtain ⟨h1, h2⟩ := lay_bxs bs
  show (PyData.canLayAll0 (bs.map bxD) && decide (PyData.depthAll (bs.map bxD) + 1 ≤ 64)) = true
  rw [h1, decide_eq_true (by omega)]
  rfl
section
variable {P : Program} {w : World} {K : PySem.W.Frag} {mg : Str → Option Value} {base : Heap} {A : Ad}
theorem bV_dp {H : Hp} (b : Option Int) : Dp K H (bV b) (bD b) := by cases b <;> first | exact .non | exact .int _
theorem bV_of {H : Hp} {v : V} {b : Option Int} (h : Dp K H v (bD b)) : v = bV b := by
  cases b with
  | none => cases h; rfl
  | some n => cases h; rfl
theorem bV_eq (b c : Option Int) : decide (bV b = bV c) = decide (b = c) := by cases b <;> cases c <;> simp [bV]
theorem bV_sc (b c : Option Int) : scal (bV b) (bV c) = true := by cases b <;> cases c <;> rfl
def MyWay (K : PySem.W.Frag) (A : Ad) (H : Hp) (p : Addr) (b : Option Int) (l m : Int) (bs : List Bx) : Prop := WayAt K A H p (bV b) (.int l) (.int m) (bs.map bxD)
theorem MyWay.ext {H H' : Hp} {p : Addr} {b : Option Int} {l m : Int} {bs : List Bx} (h : MyWay K A H p b l m bs) (e : Ext H H') : MyWay K A H' p b l m bs := by
  obtain ⟨dx, T', xs, h1, h2, h3⟩ := h
  exact ⟨dx, T', xs, e _ _ h1, h2.ext e, dps_ext e _ _ h3⟩
def spWindow (K : PySem.W.Frag) (A : Ad) : Sp := fun vs H Q _ => ∃ p b l m bs, vs = [.ref p] ∧ MyWay K A H p b l m bs ∧ (b = none → Q .non H) ∧ ∀ n, b = some n → ∀ t H', Ext H H' → H' t = some (.tup [.int (n + 2 * l), .int (n + 2 * m)]) → Q (.ref t) H'
theorem ok_window {f : Addr} {fd : FuncData} (F : Fun K "window" "Way.window" s_Way_window f fd) (T : Txt K mg A) : FnOk P w K mg base CX0 1 f fd pm_Way_window (spWindow K A) := by
  refine F.ok sc_Way_window (fun vs H Q E h => ?_) (fun cdv A' outer s H vs Q E hr h => ?_)
  · obtain ⟨_, _, _, _, _, rfl, _⟩ := h
    rfl
  · obtain ⟨p, b, l, m, bs, rfl, ⟨dx, T', xs, hp, hT, ha⟩, q0, q1⟩ := h
    refine ⟨_, pss_cons (ps_if (pt_cmpR op_isN (pe_fld (pv 0) rfl) (pe_non) (nomark _)) (pss_one (ps_ret (pe_non))) (pss_nil))
      (pss_one (ps_ret (pe_tup (pa_cons (pe_op op_add (pe_fld (pv 0) rfl) (pe_op op_mul (pe_int) (pe_fld (pv 0) rfl))) (pa_cons (pe_op op_add (pe_fld (pv 0) rfl) (pe_op op_mul (pe_int) (pe_fld (pv 0) rfl))) pa_nil))))), ?_⟩
    refine ⟨_, rfl, p, A.Way, dx, _, _, rfl, hp, T.Way.cl, T.w_begin, rfl, rfl, _, rfl, ?_⟩
    cases b with
    | none => exact iteT (q0 rfl)
    | some n =>
      refine iteF ?_
      refine ⟨_, rfl, p, A.Way, dx, _, _, rfl, hp, T.Way.cl, T.w_begin, rfl, _, rfl, p, A.Way, dx, _, _, rfl, hp, T.Way.cl, T.w_least, rfl, _, _, rfl, rfl, .inl ⟨by decide, by decide⟩, _, _, rfl, rfl, ?_⟩
      refine ⟨_, rfl, p, A.Way, dx, _, _, rfl, hp, T.Way.cl, T.w_begin, rfl, _, rfl, p, A.Way, dx, _, _, rfl, hp, T.Way.cl, T.w_most, rfl, _, _, rfl, rfl, .inl ⟨by decide, by decide⟩, _, _, rfl, rfl, ?_⟩
      exact ⟨by show 2 ≤ sizeLine; decide, fun t ht => q1 n rfl t _ (Ext.upd ht) upd_same⟩
def spWayEq (K : PySem.W.Frag) (A : Ad) : Sp := fun vs H Q _ => ∃ p b l m bs v, vs = [.ref p, v] ∧ MyWay K A H p b l m bs ∧
  ((∃ q b' l' m' bs', v = .ref q ∧ MyWay K A H q b' l' m' bs' ∧ Q (.bl (decide (b = b' ∧ l = l' ∧ m = m' ∧ bs = bs'))) H) ∨ ∃ d, Dp K H v d ∧ Q (.bl false) H)
theorem ok_wayEq {f : Addr} {fd : FuncData} (F : Fun K "__eq__" "Way.__eq__" s_Way_eq f fd) (T : Txt K mg A) : FnOk P w K mg base CX0 1 f fd pm_Way_eq (spWayEq K A) := by
  refine F.ok sc_Way_eq (fun vs H Q E h => ?_) (fun cdv A' outer s H vs Q E hr h => ?_)
  · obtain ⟨_, _, _, _, _, _, rfl, _⟩ := h
    rfl
  · obtain ⟨p, b, l, m, bs, v, rfl, ⟨dx, T', xs, hp, hT, ha⟩, h⟩ := h
    refine ⟨_, pss_cons (ps_if (PW.pt (pw_or (pt_not (pt_val (pe_callB call_isi (by rfl) T.n_isinstance (by decide +kernel) (pa_cons (pv 1) (pa_cons (pe_gcls T.Way.gC) pa_nil))))) (pw_or1 (pt_cmpR op_ne (pe_fld (pv 0) rfl) (pe_fld (pv 1) rfl) (nomark _))))) (pss_one (ps_ret (pe_bl))) (pss_nil))
      (pss_one (ps_ret (pe_and (pe_cmpR op_eq (pe_fld (pv 0) rfl) (pe_fld (pv 1) rfl) (nomark _)) (pe_and (pe_cmpR op_eq (pe_fld (pv 0) rfl) (pe_fld (pv 1) rfl) (nomark _)) (pe_one (pe_cmpR (op_eqD hr.units) (pe_fld (pv 0) rfl) (pe_fld (pv 1) rfl) (nomark _))))))), ?_⟩
    rcases h with ⟨q, b', l', m', bs', rfl, ⟨dy, T2, ys, hq, hT2, ha2⟩, k⟩ | ⟨d, hd, h⟩
    · refine ⟨_, rfl, _, .ref A.Way, .ref A.Way, .ref A.Way, true, rfl, .own _, T.Way.tyOf hq, T.Way.me, _, rfl, ?_⟩
      refine iteF ?_
      refine ⟨_, rfl, p, A.Way, dx, _, _, rfl, hp, T.Way.cl, T.w_begin, rfl, _, rfl, q, A.Way, dy, _, _, rfl, hq, T.Way.cl, T.w_begin, rfl, bV_sc _ _, _, rfl, ?_⟩
      rw [bV_eq]
      by_cases h1 : b = b'
      · rw [decide_eq_true h1]
        refine iteF ?_
        refine ⟨_, rfl, p, A.Way, dx, _, _, rfl, hp, T.Way.cl, T.w_least, rfl, _, rfl, q, A.Way, dy, _, _, rfl, hq, T.Way.cl, T.w_least, rfl, rfl, _, rfl, ?_⟩
        rw [dvi]
        by_cases h2 : l = l'
        · rw [decide_eq_true h2]
          refine iteT ?_
          refine ⟨_, rfl, p, A.Way, dx, _, _, rfl, hp, T.Way.cl, T.w_most, rfl, _, rfl, q, A.Way, dy, _, _, rfl, hq, T.Way.cl, T.w_most, rfl, rfl, _, rfl, ?_⟩
          rw [dvi]
          by_cases h3 : m = m'
          · rw [decide_eq_true h3]
            refine iteT ?_
            refine ⟨_, rfl, p, A.Way, dx, _, _, rfl, hp, T.Way.cl, T.w_boxes, rfl, _, rfl, q, A.Way, dy, _, _, rfl, hq, T.Way.cl, T.w_boxes, rfl, ?_⟩
            refine ⟨_, _, .tup hT ha, .tup hT2 ha2, shp_bxs _, shp_bxs _, ?_⟩
            show Q (.bl (PyData.eqvAll (bs.map bxD) (bs'.map bxD))) H
            rw [eqv_bxs]
            have e : decide (b = b' ∧ l = l' ∧ m = m' ∧ bs = bs') = decide (bs = bs') := by simp [h1, h2, h3]
            rw [e] at k
            exact k
          · rw [decide_eq_false h3]
            rw [decide_eq_false (by simp [h3])] at k
            exact iteF k
        · rw [decide_eq_false h2]
          rw [decide_eq_false (by simp [h2])] at k
          exact iteF k
      · rw [decide_eq_false h1]
        rw [decide_eq_false (by simp [h1])] at k
        exact iteT k
    · refine ⟨_, rfl, _, .ref A.Way, .type (tnD d), .ref A.Way, false, rfl, .own _, dp_ty hd, T.Way.kitB (sub_ty_ref kd_find) rfl, _, rfl, ?_⟩
      exact iteT h
end
end K29

set_option Elab.async false
set_option maxRecDepth 100000
set_option maxHeartbeats 4000000
namespace K29
open PySem PySem.Spec PyProof.Rows L2
def ErrP (A : Ad) (H : Hp) (E : XK) (s : Str) : Prop := ∀ H', Ext H H' → ∀ e, H' e = none → E (.ref A.BadPart) (some e) (upd H' e (.xd [("part", .str s)]))
theorem ErrP.to {A : Ad} {H H' : Hp} {E : XK} {s : Str} (h : ErrP A H E s) (e : Ext H H') : ErrP A H' E s := fun H2 e2 => h H2 (e.trans e2)
/-- what is wrong first -/
def lullDue2 (dl : Int) (t l : PyData) : Option Str := if betD t (2 * dl) 200 = false then some "turn" else if betD l 1 3 = false then some "losses" else none
def quietDue (q : PyData) : Option Str := if betD q 1 500 = false then some "quiet" else none
def lullDue : PyData → PyData → PyData → PyData → Option Str
  | .int dl, t, l, q => if betD (.int dl) 1 50 = false then some "delay" else (lullDue2 dl t l).or (quietDue q)
  | _, _, _, _ => some "delay"
theorem lullDue_no {d t l q : PyData} (h : betD d 1 50 = false) : lullDue d t l q = some ("delay" : Str) := by
  cases d <;> first | rfl | skip
  exact if_pos h
theorem lullDue_yes {dl : Int} {t l q : PyData} (h : betD (.int dl) 1 50 = true) : lullDue (.int dl) t l q = (lullDue2 dl t l).or (quietDue q) := if_neg (by rw [h]; decide)
theorem lullDue2_none {dl : Int} {t l : PyData} (h : lullDue2 dl t l = none) : ∃ ti li, t = .int ti ∧ l = .int li ∧ 2 * dl ≤ ti ∧ ti ≤ 200 ∧ 1 ≤ li ∧ li ≤ 3 := by
  unfold lullDue2 at h
  cases h1 : betD t (2 * dl) 200 with
  | false => rw [h1, if_pos rfl] at h; cases h
  | true =>
    rw [h1, if_neg (by decide)] at h
    cases h2 : betD l 1 3 with
    | false => rw [h2, if_pos rfl] at h; cases h
    | true =>
      obtain ⟨ti, rfl, a, b⟩ := bet_yes h1
      obtain ⟨li, rfl, c, e⟩ := bet_yes h2
      exact ⟨ti, li, rfl, rfl, a, b, c, e⟩
theorem quietDue_none {q : PyData} (h : quietDue q = none) : ∃ qi, q = .int qi ∧ 1 ≤ qi ∧ qi ≤ 500 := by
  unfold quietDue at h
  cases h1 : betD q 1 500 with
  | false => rw [h1, if_pos rfl] at h; cases h
  | true => exact bet_yes h1
section
variable {P : Program} {w : World} {K : PySem.W.Frag} {mg : Str → Option Value} {base : Heap} {A : Ad}
def spCheckLull (K : PySem.W.Frag) (A : Ad) : Sp := fun vs H Q E => ∃ (dl : Int) (vt vl : V) (t l : PyData), vs = [.int dl, vt, vl] ∧ Dp K H vt t ∧ Dp K H vl l ∧ (∀ s, lullDue2 dl t l = some s → ErrP A H E s) ∧ (lullDue2 dl t l = none → Q .non H)
theorem ok_checkLull {f : Addr} {fd : FuncData} (F : Fun K "check_lull" "check_lull" s_check_lull f fd) (T : Txt K mg A) (O_is_between : Own P w K mg base CX0 "is_between" 2 pm_is_between (spBetween K)) (X_BadPart : XCls P w K mg base "BadPart" "part" A.BadPart) : FnOk P w K mg base (L2.CX P w) 4 f fd pm_check_lull (spCheckLull K A) := by
  refine F.okX sc_check_lull (fun vs H Q E h => ?_) (fun cdv A' outer s H vs Q E hr h => ?_)
  · obtain ⟨_, _, _, _, _, rfl, _⟩ := h
    rfl
  · obtain ⟨dl, vt, vl, t, l, rfl, ht, hl, hE, hQ⟩ := h
    refine ⟨_, pss_cons (ps_if (pt_not (pt_val (pe_own O_is_between (hr.mono (by decide)) pass0 (pa_cons (pv 1) (pa_cons (pe_op op_mul (pe_int) (pv 0)) (pa_cons (pe_gint T.g_MOST_TURN) pa_nil)))))) (pss_one (ps_raise rfl (takes_of rfl rfl rfl rfl) (pmk_X X_BadPart (hr.mono (by decide)) (pe_str) rfl))) (pss_nil))
      (pss_one (ps_if (pt_not (pt_val (pe_own O_is_between (hr.mono (by decide)) pass0 (pa_cons (pv 2) (pa_cons (pe_int) (pa_cons (pe_gint T.g_MOST_LOST) pa_nil)))))) (pss_one (ps_raise rfl (takes_of rfl rfl rfl rfl) (pmk_X X_BadPart (hr.mono (by decide)) (pe_str) rfl))) (pss_nil))), ?_⟩
    refine ⟨vt, rfl, _, rfl, _, _, rfl, rfl, .inl ⟨by decide, by decide⟩, vt, t, 2 * dl, 200, rfl, ht, _, rfl, ?_⟩
    cases h1 : betD t (2 * dl) 200 with
    | false => exact iteT (mkX_fin fun e he => hE _ (by unfold lullDue2; rw [if_pos h1]) _ Ext.rfl' e he)
    | true =>
      refine iteF ⟨vl, rfl, vl, l, 1, 3, rfl, hl, _, rfl, ?_⟩
      cases h2 : betD l 1 3 with
      | false => exact iteT (mkX_fin fun e he => hE _ (by unfold lullDue2; rw [h1, if_neg (by decide), if_pos h2]) _ Ext.rfl' e he)
      | true => exact iteF (hQ (by unfold lullDue2; rw [h1, if_neg (by decide), h2, if_neg (by decide)]))
def spCheckQuiet (K : PySem.W.Frag) (A : Ad) : Sp := fun vs H Q E => ∃ (vq : V) (q : PyData), vs = [vq] ∧ Dp K H vq q ∧ (∀ s, quietDue q = some s → ErrP A H E s) ∧ (quietDue q = none → Q .non H)
theorem ok_checkQuiet {f : Addr} {fd : FuncData} (F : Fun K "check_quiet" "check_quiet" s_check_quiet f fd) (T : Txt K mg A) (O_is_between : Own P w K mg base CX0 "is_between" 2 pm_is_between (spBetween K)) (X_BadPart : XCls P w K mg base "BadPart" "part" A.BadPart) : FnOk P w K mg base (L2.CX P w) 4 f fd pm_check_quiet (spCheckQuiet K A) := by
  refine F.okX sc_check_quiet (fun vs H Q E h => ?_) (fun cdv A' outer s H vs Q E hr h => ?_)
  · obtain ⟨_, _, rfl, _⟩ := h
    rfl
  · obtain ⟨vq, q, rfl, hq, hE, hQ⟩ := h
    refine ⟨_, pss_one (ps_if (pt_not (pt_val (pe_own O_is_between (hr.mono (by decide)) pass0 (pa_cons (pv 0) (pa_cons (pe_int) (pa_cons (pe_gint T.g_MOST_QUIET) pa_nil)))))) (pss_one (ps_raise rfl (takes_of rfl rfl rfl rfl) (pmk_X X_BadPart (hr.mono (by decide)) (pe_str) rfl))) (pss_nil)), ?_⟩
    refine ⟨vq, rfl, vq, q, 1, 500, rfl, hq, _, rfl, ?_⟩
    cases h1 : betD q 1 500 with
    | false => exact iteT (mkX_fin fun e he => hE _ (by unfold quietDue; rw [if_pos h1]) _ Ext.rfl' e he)
    | true => exact iteF (hQ (by unfold quietDue; rw [h1, if_neg (by decide)]))
def lF (d t l z : Int) : List (Str × V) := [("delay", .int d), ("turn", .int t), ("losses", .int l), ("quiet", .int z)]
def LullAt (A : Ad) (H : Hp) (p : Addr) (d t l z : Int) : Prop := ∃ dx, H p = some (.ins A.Lull dx (lF d t l z))
theorem LullAt.ext {H H' : Hp} {p : Addr} {d t l z : Int} (h : LullAt A H p d t l z) (e : Ext H H') : LullAt A H' p d t l z := by
  obtain ⟨dx, h⟩ := h
  exact ⟨dx, e _ _ h⟩
def spLullInit (K : PySem.W.Frag) (A : Ad) : Sp := fun vs H Q E => ∃ (p dx : Addr) (vd vt vl vq : V) (d t l q : PyData), vs = [.ref p, vd, vt, vl, vq] ∧ H p = some (.ins A.Lull dx []) ∧ Dp K H vd d ∧ Dp K H vt t ∧ Dp K H vl l ∧ Dp K H vq q ∧ (∀ s, lullDue d t l q = some s → ErrP A H E s) ∧
  (∀ di ti li qi : Int, d = .int di → t = .int ti → l = .int li → q = .int qi → lullDue d t l q = none → ∀ H', LullAt A H' p di ti li qi → (∀ x u, x ≠ p → H x = some u → H' x = some u) → Q .non H')
theorem ok_lullInit {f : Addr} {fd : FuncData} (F : Fun K "__init__" "Lull.__init__" s_Lull_init f fd) (T : Txt K mg A) (O_is_between : Own P w K mg base CX0 "is_between" 2 pm_is_between (spBetween K))
    (O_check_lull : Own P w K mg base (L2.CX P w) "check_lull" 4 pm_check_lull (spCheckLull K A)) (O_check_quiet : Own P w K mg base (L2.CX P w) "check_quiet" 4 pm_check_quiet (spCheckQuiet K A)) (X_BadPart : XCls P w K mg base "BadPart" "part" A.BadPart) : FnOk P w K mg base (L2.CX P w) 5 f fd pm_Lull_init (spLullInit K A) := by
  refine F.okX sc_Lull_init (fun vs H Q E h => ?_) (fun cdv A' outer s H vs Q E hr h => ?_)
  · obtain ⟨_, _, _, _, _, _, _, _, _, _, rfl, _⟩ := h
    rfl
  · obtain ⟨p, dx, vd, vt, vl, vq, d, t, l, q, rfl, hp, hd, ht, hl, hq, hE, hQ⟩ := h
    refine ⟨_, pss_cons (ps_if (pt_not (pt_val (pe_own O_is_between (hr.mono (by decide)) pass0 (pa_cons (pv 1) (pa_cons (pe_int) (pa_cons (pe_gint T.g_MOST_DELAY) pa_nil)))))) (pss_one (ps_raise rfl (takes_of rfl rfl rfl rfl) (pmk_X X_BadPart (hr.mono (by decide)) (pe_str) rfl))) (pss_nil))
      (pss_cons (ps_expr (pe_ownS O_check_lull (hr.mono (by decide)) (takes_of rfl rfl rfl rfl) (pa_cons (pv 1) (pa_cons (pv 2) (pa_cons (pv 3) pa_nil)))))
      (pss_cons (ps_expr (pe_ownS O_check_quiet (hr.mono (by decide)) (takes_of rfl rfl rfl rfl) (pa_cons (pv 4) pa_nil)))
      (pss_cons (ps_fld (pv 0) (pv 1) rfl)
      (pss_cons (ps_fld (pv 0) (pv 2) rfl)
      (pss_cons (ps_fld (pv 0) (pv 3) rfl)
      (pss_one (ps_fld (pv 0) (pv 4) rfl))))))), ?_⟩
    refine ⟨vd, rfl, vd, d, 1, 50, rfl, hd, _, rfl, ?_⟩
    cases h1 : betD d 1 50 with
    | false => exact iteT (mkX_fin fun e he => hE _ (lullDue_no h1) _ Ext.rfl' e he)
    | true =>
      obtain ⟨di, rfl, d1, d2⟩ := bet_yes h1
      obtain rfl := dp_int hd
      rw [lullDue_yes h1] at hE
      refine iteF ⟨_, rfl, vt, rfl, vl, rfl, di, vt, vl, t, l, rfl, ht, hl, fun s hs => hE s (by rw [hs]; rfl), fun h2 => ?_⟩
      refine ⟨vq, rfl, vq, q, rfl, hq, fun s hs => hE s (by rw [h2, hs]; rfl), fun h3 => ?_⟩
      obtain ⟨ti, li, rfl, rfl, _⟩ := lullDue2_none h2
      obtain ⟨qi, rfl, _⟩ := quietDue_none h3
      obtain rfl := dp_int ht
      obtain rfl := dp_int hl
      obtain rfl := dp_int hq
      refine ⟨_, rfl, _, rfl, p, A.Lull, dx, [], rfl, hp, T.Lull.cl, T.c_delay, (by show 0 < 1000; decide), ?_⟩
      refine ⟨_, rfl, _, rfl, p, A.Lull, dx, _, rfl, upd_same, T.Lull.cl, T.c_turn, (by show 1 < 1000; decide), ?_⟩
      refine ⟨_, rfl, _, rfl, p, A.Lull, dx, _, rfl, upd_same, T.Lull.cl, T.c_losses, (by show 2 < 1000; decide), ?_⟩
      refine ⟨_, rfl, _, rfl, p, A.Lull, dx, _, rfl, upd_same, T.Lull.cl, T.c_quiet, (by show 3 < 1000; decide), ?_⟩
      refine hQ di ti li qi rfl rfl rfl rfl (by rw [lullDue_yes h1, h2, h3]; rfl) _ ⟨dx, upd_same.trans (by rfl)⟩ fun x u hx hu => ?_
      rw [upd_ne hx, upd_ne hx, upd_ne hx, upd_ne hx]
      exact hu
def spLullEq (K : PySem.W.Frag) (A : Ad) : Sp := fun vs H Q _ => ∃ (p : Addr) (d t l z : Int) (v : V), vs = [.ref p, v] ∧ LullAt A H p d t l z ∧
  ((∃ (q : Addr) (d' t' l' z' : Int), v = .ref q ∧ LullAt A H q d' t' l' z' ∧ Q (.bl (decide (d = d' ∧ t = t' ∧ l = l' ∧ z = z'))) H) ∨ ∃ e, Dp K H v e ∧ Q (.bl false) H)
theorem ok_lullEq {f : Addr} {fd : FuncData} (F : Fun K "__eq__" "Lull.__eq__" s_Lull_eq f fd) (T : Txt K mg A) : FnOk P w K mg base CX0 1 f fd pm_Lull_eq (spLullEq K A) := by
  refine F.ok sc_Lull_eq (fun vs H Q E h => ?_) (fun cdv A' outer s H vs Q E hr h => ?_)
  · obtain ⟨_, _, _, _, _, _, rfl, _⟩ := h
    rfl
  · obtain ⟨p, d, t, l, z, v, rfl, ⟨dx, hp⟩, h⟩ := h
    refine ⟨_, pss_cons (ps_if (PW.pt (pw_or (pt_not (pt_val (pe_callB call_isi (by rfl) T.n_isinstance (by decide +kernel) (pa_cons (pv 1) (pa_cons (pe_gcls T.Lull.gC) pa_nil))))) (pw_or (pt_cmpR op_ne (pe_fld (pv 0) rfl) (pe_fld (pv 1) rfl) (nomark _)) (pw_or1 (pt_cmpR op_ne (pe_fld (pv 0) rfl) (pe_fld (pv 1) rfl) (nomark _)))))) (pss_one (ps_ret (pe_bl))) (pss_nil))
      (pss_one (ps_ret (pe_and (pe_cmpR op_eq (pe_fld (pv 0) rfl) (pe_fld (pv 1) rfl) (nomark _)) (pe_one (pe_cmpR op_eq (pe_fld (pv 0) rfl) (pe_fld (pv 1) rfl) (nomark _)))))), ?_⟩
    rcases h with ⟨q, d', t', l', z', rfl, ⟨dy, hq⟩, k⟩ | ⟨e, he, k⟩
    · refine ⟨_, rfl, _, .ref A.Lull, .ref A.Lull, .ref A.Lull, true, rfl, .own _, T.Lull.tyOf hq, T.Lull.me, _, rfl, ?_⟩
      refine iteF ⟨_, rfl, p, A.Lull, dx, _, _, rfl, hp, T.Lull.cl, T.c_delay, rfl, _, rfl, q, A.Lull, dy, _, _, rfl, hq, T.Lull.cl, T.c_delay, rfl, rfl, _, rfl, ?_⟩
      rw [dvi]
      by_cases h1 : d = d'
      · rw [decide_eq_true h1]
        refine iteF ⟨_, rfl, p, A.Lull, dx, _, _, rfl, hp, T.Lull.cl, T.c_turn, rfl, _, rfl, q, A.Lull, dy, _, _, rfl, hq, T.Lull.cl, T.c_turn, rfl, rfl, _, rfl, ?_⟩
        rw [dvi]
        by_cases h2 : t = t'
        · rw [decide_eq_true h2]
          refine iteF ⟨_, rfl, p, A.Lull, dx, _, _, rfl, hp, T.Lull.cl, T.c_losses, rfl, _, rfl, q, A.Lull, dy, _, _, rfl, hq, T.Lull.cl, T.c_losses, rfl, rfl, _, rfl, ?_⟩
          rw [dvi]
          by_cases h3 : l = l'
          · rw [decide_eq_true h3]
            refine iteT ⟨_, rfl, p, A.Lull, dx, _, _, rfl, hp, T.Lull.cl, T.c_quiet, rfl, _, rfl, q, A.Lull, dy, _, _, rfl, hq, T.Lull.cl, T.c_quiet, rfl, rfl, ?_⟩
            rw [dvi]
            rw [show decide (d = d' ∧ t = t' ∧ l = l' ∧ z = z') = decide (z = z') by simp [h1, h2, h3]] at k
            exact k
          · rw [decide_eq_false h3]
            rw [decide_eq_false (by simp [h3])] at k
            exact iteF k
        · rw [decide_eq_false h2]
          rw [decide_eq_false (by simp [h2])] at k
          exact iteT k
      · rw [decide_eq_false h1]
        rw [decide_eq_false (by simp [h1])] at k
        exact iteT k
    · refine ⟨_, rfl, _, .ref A.Lull, .type (tnD e), .ref A.Lull, false, rfl, .own _, dp_ty he, T.Lull.kitB (sub_ty_ref kd_find) rfl, _, rfl, ?_⟩
      exact iteT k
end
end K29

set_option Elab.async false
set_option maxRecDepth 100000
set_option maxHeartbeats 4000000
namespace K29
open PySem PySem.Spec PyProof.Rows L2
theorem small_sz {n : Nat} (h : n ≤ 2000) : n < sizeLine := by show n < 16777216; omega
theorem dp_betw {K : PySem.W.Frag} {H : Hp} {v : V} {d : PyData} {a b : Int} (h : Dp K H v d) : betD d a b = betw v a b := by
  cases h <;> rfl
def rowsD (x : PyData) : Bool := match itemsD x with
  | some ds => (decide ((1 : Int) ≤ (ds.length : Int)) && decide ((ds.length : Int) ≤ 3)) && ds.all (fun d => betD d 1 600)
  | none => false
theorem rowsD_no {x : PyData} (h : (isSeqD x && (decide ((1 : Int) ≤ (lenD x : Int)) && decide ((lenD x : Int) ≤ 3))) = false) : rowsD x = false := by
  unfold rowsD
  cases x with
  | list ds =>
    show ((decide ((1 : Int) ≤ (ds.length : Int)) && decide ((ds.length : Int) ≤ 3)) && _) = false
    have z : (true && (decide ((1 : Int) ≤ (ds.length : Int)) && decide ((ds.length : Int) ≤ 3))) = false := h
    rw [Bool.true_and] at z
    rw [z, Bool.false_and]
  | tuple ds =>
    show ((decide ((1 : Int) ≤ (ds.length : Int)) && decide ((ds.length : Int) ≤ 3)) && _) = false
    have z : (true && (decide ((1 : Int) ≤ (ds.length : Int)) && decide ((ds.length : Int) ≤ 3))) = false := h
    rw [Bool.true_and] at z
    rw [z, Bool.false_and]
  | _ => rfl
theorem all_betw {K : PySem.W.Frag} {H : Hp} : ∀ {xs : List V} {ds : List PyData}, DpAll K H xs ds → ds.all (fun d => betD d 1 600) = (xs.map fun v => betw v 1 600).all id
  | [], _, h => by cases h; rfl
  | x :: xs, _, h => by
    cases h with
    | cons h1 h2 =>
      rw [List.all_cons, all_betw h2, dp_betw h1]
      rfl
theorem rows_yes {x : PyData} (h : rowsD x = true) : ∃ rs : List Int, itemsD x = some (rs.map PyData.int) ∧ 1 ≤ rs.length ∧ rs.length ≤ 3 ∧ ∀ r ∈ rs, 1 ≤ r ∧ r ≤ 600 := by
  unfold rowsD at h
  cases hi : itemsD x with
  | none => rw [hi] at h; cases h
  | some ds =>
    rw [hi] at h
    have h' : ((decide ((1 : Int) ≤ (ds.length : Int)) && decide ((ds.length : Int) ≤ 3)) && ds.all (fun d => betD d 1 600)) = true := h
    rw [Bool.and_eq_true, Bool.and_eq_true, decide_eq_true_eq, decide_eq_true_eq] at h'
    obtain ⟨⟨a, b⟩, c⟩ := h'
    have key : ∀ ds : List PyData, (∀ d ∈ ds, betD d 1 600 = true) → ∃ rs : List Int, ds = rs.map PyData.int ∧ ∀ r ∈ rs, 1 ≤ r ∧ r ≤ 600 := fun ds => by
      induction ds with
      | nil => exact fun _ => ⟨[], rfl, fun _ h => nomatch h⟩
      | cons d ds ih =>
        intro hd
        obtain ⟨rs, e, hr⟩ := ih fun d' h' => hd d' (List.mem_cons_of_mem _ h')
        obtain ⟨n, rfl, n1, n2⟩ := bet_yes (hd d List.mem_cons_self)
        refine ⟨n :: rs, by rw [e]; rfl, fun r hr' => ?_⟩
        rcases List.mem_cons.mp hr' with rfl | hr'
        · exact ⟨n1, n2⟩
        · exact hr r hr'
    obtain ⟨rs, rfl, hr⟩ := key ds fun d hd => List.all_eq_true.mp c d hd
    rw [List.length_map] at a b
    exact ⟨rs, rfl, by omega, by omega, hr⟩
theorem dp_ints {K : PySem.W.Frag} {H : Hp} : ∀ {xs : List V} {rs : List Int}, DpAll K H xs (rs.map PyData.int) → xs = rs.map V.int
  | [], [], _ => rfl
  | [], _ :: _, h => by cases h
  | _ :: _, [], h => by cases h
  | x :: xs, r :: rs, h => by
    cases h with
    | cons h1 h2 =>
      cases h1
      rw [dp_ints h2]
      rfl
/-- what of a road is wrong first, behind its way -/
def perDue (pe : PyData) : Option Str := if betD pe 1 200 = false then some "period" else none
def rowsDue (ro qu pe : PyData) : Option Str := if rowsD ro = false then some "rows" else (quietDue qu).or (perDue pe)
def roadDue (n l m : Int) (la tu lo ro qu pe : PyData) : Option Str := if betD la (n + 2 * l) (n + 2 * m) = false then some "last" else (lullDue2 m tu lo).or (rowsDue ro qu pe)
def rF (wp T : Addr) (la tu lo qu pe : Int) : List (Str × V) := [("way", .ref wp), ("last", .int la), ("turn", .int tu), ("losses", .int lo), ("rows", .ref T), ("quiet", .int qu), ("period", .int pe)]
section
variable {P : Program} {w : World} {K : PySem.W.Frag} {mg : Str → Option Value} {base : Heap} {A : Ad}
def spRows (K : PySem.W.Frag) : Sp := fun vs H Q _ => ∃ (v : V) (x : PyData), vs = [v] ∧ Dp K H v x ∧ ∀ H', Ext H H' → Q (.bl (rowsD x)) H'
theorem ok_rows {f : Addr} {fd : FuncData} (F : Fun K "are_rows" "are_rows" s_are_rows f fd) (T : Txt K mg A) (O_is_list_of : Own P w K mg base CX0 "is_list_of" 2 pm_is_list_of (spListOf K)) (O_is_between : Own P w K mg base CX0 "is_between" 2 pm_is_between (spBetween K)) : FnOk P w K mg base CX0 3 f fd pm_are_rows (spRows K) := by
  refine F.ok sc_are_rows (fun vs H Q E h => ?_) (fun cdv A' outer s H vs Q E hr h => ?_)
  · obtain ⟨_, _, rfl, _⟩ := h
    rfl
  · obtain ⟨v, x, rfl, hx, q⟩ := h
    refine ⟨_, pss_one (ps_ret (pe_and (pe_own O_is_list_of (hr.mono (by decide)) pass0 (pa_cons (pv 0) (pa_cons (pe_int) (pa_cons (pe_gint T.g_MOST_ROWS) pa_nil)))) (pe_one (pe_callB (cr_all rfl) (by rfl) T.n_all (by decide +kernel) (pa_cons (pe_lc (own := [("row", 1)]) (g := gName 1) (by rfl) sc_are_rows.nd (pi_sq (pv 0)) (blkOk_by (own := [("row", 1)]) (N := nm_are_rows) (sc := defScope s_are_rows) (by decide +kernel)) (fun _ _ _ _ _ => pg_name (i := 1) sc_are_rows.nd rfl (Or.inl rfl)) (fun s1 H1 C1 cl fp => pts_nil) (fun s1 H1 C1 cl fp => pe_own O_is_between (hr.mono (by decide)) pass0 (pa_cons (pv 1) (pa_cons (pe_int) (pa_cons (pe_gint T.g_MOST_PARCELS) pa_nil))))) pa_nil))))), ?_⟩
    obtain ⟨tx, ix, k1, k2, k3, k4⟩ := listOf_key hx
    refine ⟨v, rfl, v, tx, isSeqD x, 1, 3, ix, rfl, k1, k2, k3, fun H1 e1 => ⟨_, rfl, ?_⟩⟩
    rw [k4]
    cases h3 : (isSeqD x && (decide ((1 : Int) ≤ (lenD x : Int)) && decide ((lenD x : Int) ≤ 3))) with
    | false =>
      have := q H1 e1
      rw [rowsD_no h3] at this
      exact iteF this
    | true =>
      have h3' := (Bool.and_eq_true_iff.mp h3).1
      obtain ⟨a, xs, ds, rfl, hsq, ha, hd⟩ := dp_seq (dp_ext e1 _ _ hx) h3'
      have hit : itemsD x = some ds := by rcases hd with rfl | rfl <;> rfl
      have hlen : lenD x = ds.length := by rcases hd with rfl | rfl <;> rfl
      have small : xs.length ≤ 3 := by
        have z := (Bool.and_eq_true_iff.mp (Bool.and_eq_true_iff.mp h3).2).2
        rw [dp_lenD ha hd, decide_eq_true_eq] at z
        omega
      have hro : rowsD x = (xs.map fun v => betw v 1 600).all id := by
        unfold rowsD
        rw [hit]
        show ((decide ((1 : Int) ≤ (ds.length : Int)) && decide ((ds.length : Int) ≤ 3)) && ds.all (fun d => betD d 1 600)) = _
        rw [← hlen, (Bool.and_eq_true_iff.mp h3).2, Bool.true_and, all_betw ha]
      refine iteT ⟨_, rfl, a, rfl, lc_sqG (f := fun v => .bl (betw v 1 600)) (b := fun _ => true) hsq (small_sz (by omega)) (fun x => rfl) (fun x hm H' e' Q' q' => q' _ Ext.rfl') (fun x hm _ H' e' Q' q' => ?_) (fun C H4 hC e4 hlC => ?_)⟩
      · obtain ⟨i, hi⟩ := List.mem_iff_getElem?.mp hm
        obtain ⟨d, _, hdv⟩ := dps_get (dps_ext e' _ _ ha) hi
        refine ⟨_, rfl, x, d, 1, 600, rfl, hdv, ?_⟩
        rw [dp_betw hdv]
        exact q' _ Ext.rfl'
      · rw [L2.filter_all] at hlC
        refine ⟨C, xs.map fun v => betw v 1 600, rfl, SqL.of (by rw [hlC, List.map_map]; rfl), ?_⟩
        rw [← hro]
        exact q _ (e1.trans e4)
/-! ### Road -/
def RoadAt (K : PySem.W.Frag) (A : Ad) (H : Hp) (p wp : Addr) (la tu lo : Int) (rs : List Int) (qu pe : Int) : Prop := ∃ dx T, H p = some (.ins A.Road dx (rF wp T la tu lo qu pe)) ∧ SqT K H T (rs.map V.int)
theorem RoadAt.ext {H H' : Hp} {p wp : Addr} {la tu lo qu pe : Int} {rs : List Int} (h : RoadAt K A H p wp la tu lo rs qu pe) (e : Ext H H') : RoadAt K A H' p wp la tu lo rs qu pe := by
  obtain ⟨dx, T, h1, h2⟩ := h
  exact ⟨dx, T, e _ _ h1, h2.ext e⟩
def spRoadInit (K : PySem.W.Frag) (A : Ad) : Sp := fun vs H Q E => ∃ (p dx : Addr) (vw vla vtu vlo vro vqu vpe : V) (la tu lo ro qu pe : PyData), vs = [.ref p, vw, vla, vtu, vlo, vro, vqu, vpe] ∧ H p = some (.ins A.Road dx []) ∧
  Dp K H vla la ∧ Dp K H vtu tu ∧ Dp K H vlo lo ∧ Dp K H vro ro ∧ Dp K H vqu qu ∧ Dp K H vpe pe ∧
  ((∃ e, Dp K H vw e ∧ ErrP A H E "way") ∨ ∃ wp b l m bs, vw = .ref wp ∧ MyWay K A H wp b l m bs ∧ (b = none → ErrP A H E "way") ∧ ∀ n, b = some n → (∀ s, roadDue n l m la tu lo ro qu pe = some s → ErrP A H E s) ∧
    (roadDue n l m la tu lo ro qu pe = none → ∀ (lai tui loi qui pei : Int) (rs : List Int), la = .int lai → tu = .int tui → lo = .int loi → qu = .int qui → pe = .int pei → itemsD ro = some (rs.map PyData.int) → ∀ H', RoadAt K A H' p wp lai tui loi rs qui pei → (∀ x u, x ≠ p → H x = some u → H' x = some u) → Q .non H'))
theorem ok_roadInit {f : Addr} {fd : FuncData} (F : Fun K "__init__" "Road.__init__" s_Road_init f fd) (T : Txt K mg A) (O_is_between : Own P w K mg base CX0 "is_between" 2 pm_is_between (spBetween K)) (O_Way_window : OwnM P w K mg base CX0 A.Way "window" 1 pm_Way_window (spWindow K A))
    (O_check_lull : Own P w K mg base (L2.CX P w) "check_lull" 4 pm_check_lull (spCheckLull K A)) (O_check_quiet : Own P w K mg base (L2.CX P w) "check_quiet" 4 pm_check_quiet (spCheckQuiet K A)) (O_are_rows : Own P w K mg base CX0 "are_rows" 3 pm_are_rows (spRows K)) (X_BadPart : XCls P w K mg base "BadPart" "part" A.BadPart) : FnOk P w K mg base (L2.CX P w) 5 f fd pm_Road_init (spRoadInit K A) := by
  refine F.okX sc_Road_init (fun vs H Q E h => ?_) (fun cdv A' outer s H vs Q E hr h => ?_)
  · obtain ⟨_, _, _, _, _, _, _, _, _, _, _, _, _, _, _, rfl, _⟩ := h
    rfl
  · obtain ⟨p, dx, vw, vla, vtu, vlo, vro, vqu, vpe, la, tu, lo, ro, qu, pe, rfl, hp, hla, htu, hlo, hro, hqu, hpe, h⟩ := h
    refine ⟨_, pss_cons (ps_if (PW.pt (pw_or (pt_not (pt_val (pe_callB call_isi (by rfl) T.n_isinstance (by decide +kernel) (pa_cons (pv 1) (pa_cons (pe_gcls T.Way.gC) pa_nil))))) (pw_or1 (pt_cmpR op_isN (pe_fld (pv 1) rfl) (pe_non) (nomark _))))) (pss_one (ps_raise rfl (takes_of rfl rfl rfl rfl) (pmk_X X_BadPart (hr.mono (by decide)) (pe_str) rfl))) (pss_nil))
      (pss_cons (ps_asg (pe_ownM0 O_Way_window (pv 1) T.Way.cl (hr.mono (by decide)) pass0) (pg_tup rfl (pgs_cons (pg_name (i := 8) sc_Road_init.nd rfl (Or.inl rfl)) (pgs_cons (pg_name (i := 9) sc_Road_init.nd rfl (Or.inl rfl)) (pgs_nil)))))
      (pss_cons (ps_if (pt_not (pt_val (pe_own O_is_between (hr.mono (by decide)) pass0 (pa_cons (pv 2) (pa_cons (pv 8) (pa_cons (pv 9) pa_nil)))))) (pss_one (ps_raise rfl (takes_of rfl rfl rfl rfl) (pmk_X X_BadPart (hr.mono (by decide)) (pe_str) rfl))) (pss_nil))
      (pss_cons (ps_expr (pe_ownS O_check_lull (hr.mono (by decide)) (takes_of rfl rfl rfl rfl) (pa_cons (pe_fld (pv 1) rfl) (pa_cons (pv 3) (pa_cons (pv 4) pa_nil)))))
      (pss_cons (ps_if (pt_not (pt_val (pe_own O_are_rows (hr.mono (by decide)) pass0 (pa_cons (pv 5) pa_nil)))) (pss_one (ps_raise rfl (takes_of rfl rfl rfl rfl) (pmk_X X_BadPart (hr.mono (by decide)) (pe_str) rfl))) (pss_nil))
      (pss_cons (ps_expr (pe_ownS O_check_quiet (hr.mono (by decide)) (takes_of rfl rfl rfl rfl) (pa_cons (pv 6) pa_nil)))
      (pss_cons (ps_if (pt_not (pt_val (pe_own O_is_between (hr.mono (by decide)) pass0 (pa_cons (pv 7) (pa_cons (pe_int) (pa_cons (pe_gint T.g_MOST_PERIOD) pa_nil)))))) (pss_one (ps_raise rfl (takes_of rfl rfl rfl rfl) (pmk_X X_BadPart (hr.mono (by decide)) (pe_str) rfl))) (pss_nil))
      (pss_cons (ps_fld (pv 0) (pv 1) rfl)
      (pss_cons (ps_fld (pv 0) (pv 2) rfl)
      (pss_cons (ps_fld (pv 0) (pv 3) rfl)
      (pss_cons (ps_fld (pv 0) (pv 4) rfl)
      (pss_cons (ps_fld (pv 0) (pe_callTy call_tuple_of (by rfl) T.n_tuple (by decide +kernel) (pa_cons (pv 5) pa_nil)) rfl)
      (pss_cons (ps_fld (pv 0) (pv 6) rfl)
      (pss_one (ps_fld (pv 0) (pv 7) rfl)))))))))))))), ?_⟩
    rcases h with ⟨e, he, hE⟩ | ⟨wp, b, l, m, bs, rfl, hw, hE0, hsome⟩
    · refine ⟨vw, rfl, vw, .ref A.Way, .type (tnD e), .ref A.Way, false, rfl, .own _, dp_ty he, T.Way.kitB (sub_ty_ref kd_find) rfl, _, rfl, ?_⟩
      exact iteT (iteT (mkX_fin fun a ha => hE _ Ext.rfl' a ha))
    · obtain ⟨dw, Tw, ws, hwp, hTw, haw⟩ := id hw
      refine ⟨_, rfl, _, .ref A.Way, .ref A.Way, .ref A.Way, true, rfl, .own _, T.Way.tyOf hwp, T.Way.me, _, rfl, ?_⟩
      refine iteF ⟨_, rfl, wp, A.Way, dw, _, _, rfl, hwp, T.Way.cl, T.w_begin, rfl, rfl, _, rfl, ?_⟩
      cases b with
      | none => exact iteT (mkX_fin fun a ha => hE0 rfl _ Ext.rfl' a ha)
      | some n =>
        obtain ⟨hE, hQ⟩ := hsome n rfl
        refine iteF ⟨_, rfl, wp, dw, _, rfl, hwp, rfl, wp, some n, l, m, bs, rfl, hw, (fun h => nomatch h), fun n' hn t H1 e1 ht => ?_⟩
        cases hn
        refine ⟨t, _, rfl, SqT.of ht, rfl, _, _, rfl, _, _, rfl, rfl, ?_⟩
        have hla1 := dp_ext e1 _ _ hla
        refine ⟨vla, rfl, _, rfl, _, rfl, vla, la, n + 2 * l, n + 2 * m, rfl, hla1, _, rfl, ?_⟩
        cases h1 : betD la (n + 2 * l) (n + 2 * m) with
        | false => exact iteT (mkX_fin fun a ha => hE _ (if_pos h1) _ e1 a ha)
        | true =>
          have due : roadDue n l m la tu lo ro qu pe = (lullDue2 m tu lo).or (rowsDue ro qu pe) := if_neg (by rw [h1]; decide)
          rw [due] at hE hQ
          have hwp1 := e1 _ _ hwp
          refine iteF ⟨_, rfl, wp, A.Way, dw, _, _, rfl, hwp1, T.Way.cl, T.w_most, rfl, vtu, rfl, vlo, rfl, m, vtu, vlo, tu, lo, rfl, dp_ext e1 _ _ htu, dp_ext e1 _ _ hlo, fun s hs => (hE s (by rw [hs]; rfl)).to e1, fun h2 => ?_⟩
          refine ⟨vro, rfl, vro, ro, rfl, dp_ext e1 _ _ hro, fun H2 e2 => ⟨_, rfl, ?_⟩⟩
          have e02 := e1.trans e2
          cases h3 : rowsD ro with
          | false => exact iteT (mkX_fin fun a ha => hE "rows" (by rw [h2]; show rowsDue ro qu pe = _; unfold rowsDue; rw [if_pos h3]) _ e02 a ha)
          | true =>
            have due2 : (lullDue2 m tu lo).or (rowsDue ro qu pe) = (quietDue qu).or (perDue pe) := by
              rw [h2]
              exact if_neg (by rw [h3]; decide)
            rw [due2] at hE hQ
            refine iteF ⟨vqu, rfl, vqu, qu, rfl, dp_ext e02 _ _ hqu, fun s hs => (hE s (by rw [hs]; rfl)).to e02, fun h4 => ?_⟩
            refine ⟨vpe, rfl, vpe, pe, 1, 200, rfl, dp_ext e02 _ _ hpe, _, rfl, ?_⟩
            cases h5 : betD pe 1 200 with
            | false => exact iteT (mkX_fin fun a ha => hE "period" (by rw [h4]; exact if_pos h5) _ e02 a ha)
            | true =>
              refine iteF ?_
              obtain ⟨lai, rfl, _⟩ := bet_yes h1
              obtain ⟨pei, rfl, _⟩ := bet_yes h5
              obtain ⟨tui, loi, rfl, rfl, _⟩ := lullDue2_none h2
              obtain ⟨qui, rfl, _⟩ := quietDue_none h4
              obtain ⟨rs, hit, r1, r3, _⟩ := rows_yes h3
              obtain rfl := dp_int hla
              obtain rfl := dp_int htu
              obtain rfl := dp_int hlo
              obtain rfl := dp_int hqu
              obtain rfl := dp_int hpe
              have hnone : (quietDue (.int qui)).or (perDue (.int pei)) = none := by
                rw [h4]
                exact if_neg (by rw [h5]; decide)
              have hp2 := e02 _ _ hp
              have hseq : isSeqD ro = true := by
                cases ro <;> first | rfl | cases hit
              obtain ⟨a, xs, ds, rfl, hsq, ha, hd⟩ := dp_seq (dp_ext e02 _ _ hro) hseq
              have hds : ds = rs.map PyData.int := by
                have : itemsD ro = some ds := by rcases hd with rfl | rfl <;> rfl
                rw [this] at hit
                exact Option.some.inj hit
              subst hds
              obtain rfl := dp_ints ha
              refine ⟨_, rfl, _, rfl, p, A.Road, dx, [], rfl, hp2, T.Road.cl, T.r_way, (by show 0 < 1000; decide), ?_⟩
              refine ⟨_, rfl, _, rfl, p, A.Road, dx, _, rfl, upd_same, T.Road.cl, T.r_last, (by show 1 < 1000; decide), ?_⟩
              refine ⟨_, rfl, _, rfl, p, A.Road, dx, _, rfl, upd_same, T.Road.cl, T.r_turn, (by show 2 < 1000; decide), ?_⟩
              refine ⟨_, rfl, _, rfl, p, A.Road, dx, _, rfl, upd_same, T.Road.cl, T.r_losses, (by show 3 < 1000; decide), ?_⟩
              have st4 : ∃ H4, (∀ x u, x ≠ p → H2 x = some u → H4 x = some u) ∧ H4 p = some (.ins A.Road dx [("way", .ref wp), ("last", .int lai), ("turn", .int tui), ("losses", .int loi)]) ∧ H4 = upd (upd (upd (upd H2 p (.ins A.Road dx (putF "way" (.ref wp) []))) p (.ins A.Road dx (putF "last" (.int lai) (putF "way" (.ref wp) [])))) p (.ins A.Road dx (putF "turn" (.int tui) (putF "last" (.int lai) (putF "way" (.ref wp) []))))) p (.ins A.Road dx (putF "losses" (.int loi) (putF "turn" (.int tui) (putF "last" (.int lai) (putF "way" (.ref wp) []))))) :=
                ⟨_, fun x u hx hu => by rw [upd_ne hx, upd_ne hx, upd_ne hx, upd_ne hx]; exact hu, upd_same, rfl⟩
              obtain ⟨H4, hm4, hp4, e4⟩ := st4
              rw [← e4]
              have fin : ∀ (t : Addr) (H5 : Hp), (∀ x u, x ≠ p → H2 x = some u → H5 x = some u) → SqT K H5 t (rs.map V.int) → H5 p = some (.ins A.Road dx [("way", .ref wp), ("last", .int lai), ("turn", .int tui), ("losses", .int loi), ("rows", .ref t)]) → Q .non (upd (upd H5 p (.ins A.Road dx (putF "quiet" (.int qui) [("way", .ref wp), ("last", .int lai), ("turn", .int tui), ("losses", .int loi), ("rows", .ref t)]))) p (.ins A.Road dx (putF "period" (.int pei) (putF "quiet" (.int qui) [("way", .ref wp), ("last", .int lai), ("turn", .int tui), ("losses", .int loi), ("rows", .ref t)])))) := fun t H5 hm5 ht5 hp5 => by
                refine hQ hnone lai tui loi qui pei rs rfl rfl rfl rfl rfl hit _ ⟨dx, t, upd_same.trans (by rfl), sqT_mut hp5 (fun x o hx ho => by rw [upd_ne hx, upd_ne hx]; exact ho) ht5⟩ fun x u hx hu => ?_
                rw [upd_ne hx, upd_ne hx]
                exact hm5 x u hx (e02 _ _ hu)
              refine ⟨_, rfl, a, rs.map V.int, rfl, ?_⟩
              rcases hsq with hsq | hsq
              · refine .inl ⟨sqL_mut hp2 (fun x o hx ho => hm4 x o hx ho) hsq, fun t ht => ⟨_, rfl, p, A.Road, dx, _, rfl, Ext.upd ht _ _ hp4, T.Road.cl, T.r_rows, (by show 4 < 1000; decide), ?_⟩⟩
                have ntp : t ≠ p := fun z => by rw [z, hp4] at ht; cases ht
                refine ⟨_, rfl, _, rfl, p, A.Road, dx, _, rfl, upd_same, T.Road.cl, T.r_quiet, (by show 5 < 1000; decide), ?_⟩
                refine ⟨_, rfl, _, rfl, p, A.Road, dx, _, rfl, upd_same, T.Road.cl, T.r_period, (by show 6 < 1000; decide), ?_⟩
                exact fin t _ (fun x u hx hu => by rw [upd_ne hx]; exact Ext.upd ht _ _ (hm4 x u hx hu)) (SqT.of (by rw [upd_ne ntp]; exact upd_same)) upd_same
              · refine .inr ⟨sqT_mut hp2 (fun x o hx ho => hm4 x o hx ho) hsq, _, rfl, p, A.Road, dx, _, rfl, hp4, T.Road.cl, T.r_rows, (by show 4 < 1000; decide), ?_⟩
                refine ⟨_, rfl, _, rfl, p, A.Road, dx, _, rfl, upd_same, T.Road.cl, T.r_quiet, (by show 5 < 1000; decide), ?_⟩
                refine ⟨_, rfl, _, rfl, p, A.Road, dx, _, rfl, upd_same, T.Road.cl, T.r_period, (by show 6 < 1000; decide), ?_⟩
                exact fin a _ (fun x u hx hu => by rw [upd_ne hx]; exact hm4 x u hx hu) (sqT_mut hp2 (fun x o hx ho => by rw [upd_ne hx]; exact hm4 x o hx ho) hsq) upd_same
end
end K29

set_option Elab.async false
set_option maxRecDepth 100000
set_option maxHeartbeats 4000000
namespace K29
open PySem PySem.Spec PyProof.Rows L2
/-- a road's data -/
structure RdD where
  (b : Option Int) (l m : Int) (bs : List Bx) (la tu lo : Int) (rs : List Int) (qu pe : Int)
  deriving DecidableEq
section
variable {P : Program} {w : World} {K : PySem.W.Frag} {mg : Str → Option Value} {base : Heap} {A : Ad}
def RdAt (K : PySem.W.Frag) (A : Ad) (H : Hp) (p : Addr) (r : RdD) : Prop := ∃ wp, RoadAt K A H p wp r.la r.tu r.lo r.rs r.qu r.pe ∧ MyWay K A H wp r.b r.l r.m r.bs
theorem RdAt.ext {H H' : Hp} {p : Addr} {r : RdD} (h : RdAt K A H p r) (e : Ext H H') : RdAt K A H' p r := by
  obtain ⟨wp, h1, h2⟩ := h
  exact ⟨wp, h1.ext e, h2.ext e⟩
def spRoadEq (K : PySem.W.Frag) (A : Ad) : Sp := fun vs H Q _ => ∃ (p : Addr) (r : RdD) (v : V), vs = [.ref p, v] ∧ RdAt K A H p r ∧ ((∃ q r', v = .ref q ∧ RdAt K A H q r' ∧ Q (.bl (decide (r = r'))) H) ∨ ∃ e, Dp K H v e ∧ Q (.bl false) H)
theorem rd_eq {r r' : RdD} : r = r' ↔ (r.b = r'.b ∧ r.l = r'.l ∧ r.m = r'.m ∧ r.bs = r'.bs) ∧ r.la = r'.la ∧ r.tu = r'.tu ∧ r.lo = r'.lo ∧ r.rs = r'.rs ∧ r.qu = r'.qu ∧ r.pe = r'.pe := by
  cases r
  cases r'
  simp only [RdD.mk.injEq]
  constructor
  · rintro ⟨h1, h2, h3, h4, h5, h6, h7, h8, h9, h10⟩
    exact ⟨⟨h1, h2, h3, h4⟩, h5, h6, h7, h8, h9, h10⟩
  · rintro ⟨⟨h1, h2, h3, h4⟩, h5, h6, h7, h8, h9, h10⟩
    exact ⟨h1, h2, h3, h4, h5, h6, h7, h8, h9, h10⟩
theorem ok_roadEq {f : Addr} {fd : FuncData} (F : Fun K "__eq__" "Road.__eq__" s_Road_eq f fd) (T : Txt K mg A) (O_Way_eq : OwnM P w K mg base CX0 A.Way "__eq__" 1 pm_Way_eq (spWayEq K A)) : FnOk P w K mg base CX0 3 f fd pm_Road_eq (spRoadEq K A) := by
  refine F.ok sc_Road_eq (fun vs H Q E h => ?_) (fun cdv A' outer s H vs Q E hr h => ?_)
  · obtain ⟨_, _, _, rfl, _⟩ := h
    rfl
  · obtain ⟨p, r, v, rfl, ⟨wp, ⟨dx, Tp, hp, hT⟩, hw⟩, h⟩ := h
    refine ⟨_, pss_cons (ps_if (PW.pt (pw_or (pt_not (pt_val (pe_callB call_isi (by rfl) T.n_isinstance (by decide +kernel) (pa_cons (pv 1) (pa_cons (pe_gcls T.Road.gC) pa_nil))))) (pw_or (pt_cmpR (neO O_Way_eq T.Way.neM (hr.mono (by decide)) pass0) (pe_fld (pv 0) rfl) (pe_fld (pv 1) rfl) (nomark _)) (pw_or1 (pt_cmpR op_ne (pe_fld (pv 0) rfl) (pe_fld (pv 1) rfl) (nomark _)))))) (pss_one (ps_ret (pe_bl))) (pss_nil))
      (pss_cons (ps_if (PW.pt (pw_or (pt_cmpR op_ne (pe_fld (pv 0) rfl) (pe_fld (pv 1) rfl) (nomark _)) (pw_or (pt_cmpR op_ne (pe_fld (pv 0) rfl) (pe_fld (pv 1) rfl) (nomark _)) (pw_or1 (pt_cmpR (op_neD hr.units) (pe_fld (pv 0) rfl) (pe_fld (pv 1) rfl) (nomark _)))))) (pss_one (ps_ret (pe_bl))) (pss_nil))
      (pss_one (ps_ret (pe_and (pe_cmpR op_eq (pe_fld (pv 0) rfl) (pe_fld (pv 1) rfl) (nomark _)) (pe_one (pe_cmpR op_eq (pe_fld (pv 0) rfl) (pe_fld (pv 1) rfl) (nomark _))))))), ?_⟩
    rcases h with ⟨q, r', rfl, ⟨wq, ⟨dy, Tq, hq, hT'⟩, hw'⟩, k⟩ | ⟨e, he, k⟩
    · have no : ∀ h : ¬ (r = r'), Q (.bl false) H := fun h => by rw [decide_eq_false h] at k; exact k
      refine ⟨_, rfl, _, .ref A.Road, .ref A.Road, .ref A.Road, true, rfl, .own _, T.Road.tyOf hq, T.Road.me, _, rfl, ?_⟩
      obtain ⟨dw, Tw, ws, hwp, hTw, haw⟩ := id hw
      obtain ⟨dw', Tw', ws', hwq, hTw', haw'⟩ := id hw'
      refine iteF ⟨_, rfl, p, A.Road, dx, _, _, rfl, hp, T.Road.cl, T.r_way, rfl, _, rfl, q, A.Road, dy, _, _, rfl, hq, T.Road.cl, T.r_way, rfl, wp, dw, _, .ref A.Way, rfl, hwp, T.Way.tyOf hwq, T.Way.nfMe, wp, r.b, r.l, r.m, r.bs, _, rfl, hw, .inl ⟨wq, r'.b, r'.l, r'.m, r'.bs, rfl, hw', _, rfl, _, rfl, ?_⟩⟩
      by_cases h1 : r.b = r'.b ∧ r.l = r'.l ∧ r.m = r'.m ∧ r.bs = r'.bs
      · rw [decide_eq_true h1]
        refine iteF ⟨_, rfl, p, A.Road, dx, _, _, rfl, hp, T.Road.cl, T.r_last, rfl, _, rfl, q, A.Road, dy, _, _, rfl, hq, T.Road.cl, T.r_last, rfl, rfl, _, rfl, ?_⟩
        rw [dvi]
        by_cases h2 : r.la = r'.la
        · rw [decide_eq_true h2]
          refine iteF ⟨_, rfl, p, A.Road, dx, _, _, rfl, hp, T.Road.cl, T.r_turn, rfl, _, rfl, q, A.Road, dy, _, _, rfl, hq, T.Road.cl, T.r_turn, rfl, rfl, _, rfl, ?_⟩
          rw [dvi]
          by_cases h3 : r.tu = r'.tu
          · rw [decide_eq_true h3]
            refine iteF ⟨_, rfl, p, A.Road, dx, _, _, rfl, hp, T.Road.cl, T.r_losses, rfl, _, rfl, q, A.Road, dy, _, _, rfl, hq, T.Road.cl, T.r_losses, rfl, rfl, _, rfl, ?_⟩
            rw [dvi]
            by_cases h4 : r.lo = r'.lo
            · rw [decide_eq_true h4]
              refine iteF ⟨_, rfl, p, A.Road, dx, _, _, rfl, hp, T.Road.cl, T.r_rows, rfl, _, rfl, q, A.Road, dy, _, _, rfl, hq, T.Road.cl, T.r_rows, rfl, ?_⟩
              refine neD_tup hT hT' fl_ints fl_ints ⟨_, rfl, ?_⟩
              rw [eqv_ints]
              by_cases h5 : r.rs = r'.rs
              · rw [decide_eq_true h5]
                refine iteF ⟨_, rfl, p, A.Road, dx, _, _, rfl, hp, T.Road.cl, T.r_quiet, rfl, _, rfl, q, A.Road, dy, _, _, rfl, hq, T.Road.cl, T.r_quiet, rfl, rfl, _, rfl, ?_⟩
                rw [dvi]
                by_cases h6 : r.qu = r'.qu
                · rw [decide_eq_true h6]
                  refine iteT ⟨_, rfl, p, A.Road, dx, _, _, rfl, hp, T.Road.cl, T.r_period, rfl, _, rfl, q, A.Road, dy, _, _, rfl, hq, T.Road.cl, T.r_period, rfl, rfl, ?_⟩
                  rw [dvi]
                  have e : decide (r = r') = decide (r.pe = r'.pe) := by
                    rw [Bool.eq_iff_iff, decide_eq_true_eq, decide_eq_true_eq, rd_eq]
                    exact ⟨fun h => h.2.2.2.2.2.2, fun h => ⟨h1, h2, h3, h4, h5, h6, h⟩⟩
                  rw [e] at k
                  exact k
                · rw [decide_eq_false h6]
                  exact iteF (no fun h => h6 (rd_eq.mp h).2.2.2.2.2.1)
              · rw [decide_eq_false h5]
                exact iteT (no fun h => h5 (rd_eq.mp h).2.2.2.2.1)
            · rw [decide_eq_false h4]
              exact iteT (no fun h => h4 (rd_eq.mp h).2.2.2.1)
          · rw [decide_eq_false h3]
            exact iteT (no fun h => h3 (rd_eq.mp h).2.2.1)
        · rw [decide_eq_false h2]
          exact iteT (no fun h => h2 (rd_eq.mp h).2.1)
      · rw [decide_eq_false h1]
        exact iteT (no fun h => h1 (rd_eq.mp h).1)
    · refine ⟨_, rfl, _, .ref A.Road, .type (tnD e), .ref A.Road, false, rfl, .own _, dp_ty he, T.Road.kitB (sub_ty_ref kd_find) rfl, _, rfl, ?_⟩
      exact iteT (iteT k)
def spBox : Sp := fun vs H Q _ => ∃ (t : Addr) (a b c d : Int), vs = [.ref t] ∧ H t = some (.tup [.int a, .int b, .int c, .int d]) ∧ Q (.int (b - a)) H
theorem ok_spread {f : Addr} {fd : FuncData} (F : Fun K "spread_of" "spread_of" s_spread_of f fd) : FnOk P w K mg base CX0 1 f fd pm_spread_of spBox := by
  refine F.ok sc_spread_of (fun vs H Q E h => ?_) (fun cdv A' outer s H vs Q E hr h => ?_)
  · obtain ⟨_, _, _, _, _, rfl, _⟩ := h
    rfl
  · obtain ⟨t, a, b, c, d, rfl, ht, q⟩ := h
    refine ⟨_, pss_one (ps_ret (pe_op op_sub (pe_ix ix_tup (pv 0) (pe_int) (fun _ _ => rfl)) (pe_ix ix_tup (pv 0) (pe_int) (fun _ _ => rfl)))), ?_⟩
    exact ⟨_, rfl, t, _, 1, .int b, rfl, rfl, SqT.of ht, rfl, _, rfl, t, _, 0, .int a, rfl, rfl, SqT.of ht, rfl, _, _, rfl, rfl, q⟩
def spSlack : Sp := fun vs H Q _ => ∃ (t : Addr) (a b c d : Int), vs = [.ref t] ∧ H t = some (.tup [.int a, .int b, .int c, .int d]) ∧ Q (.int (c - (b - a))) H
theorem ok_slack {f : Addr} {fd : FuncData} (F : Fun K "slack_of" "slack_of" s_slack_of f fd) (O_spread_of : Own P w K mg base CX0 "spread_of" 1 pm_spread_of spBox) : FnOk P w K mg base CX0 2 f fd pm_slack_of spSlack := by
  refine F.ok sc_slack_of (fun vs H Q E h => ?_) (fun cdv A' outer s H vs Q E hr h => ?_)
  · obtain ⟨_, _, _, _, _, rfl, _⟩ := h
    rfl
  · obtain ⟨t, a, b, c, d, rfl, ht, q⟩ := h
    refine ⟨_, pss_one (ps_ret (pe_op op_sub (pe_ix ix_tup (pv 0) (pe_int) (fun _ _ => rfl)) (pe_own O_spread_of (hr.mono (by decide)) pass0 (pa_cons (pv 0) pa_nil)))), ?_⟩
    exact ⟨_, rfl, t, _, 2, .int c, rfl, rfl, SqT.of ht, rfl, _, rfl, t, a, b, c, d, rfl, ht, _, _, rfl, rfl, q⟩
/-- what a road's rows tell of its lull -/
def spLullOf (K : PySem.W.Frag) (A : Ad) : Sp := fun vs H Q _ => ∃ (p : Addr) (r : RdD), vs = [.ref p] ∧ RdAt K A H p r ∧ 1 ≤ r.m ∧ r.m ≤ 50 ∧ 2 * r.m ≤ r.tu ∧ r.tu ≤ 200 ∧ 1 ≤ r.lo ∧ r.lo ≤ 3 ∧ 1 ≤ r.qu ∧ r.qu ≤ 500 ∧
  (r.rs.length = 1 → Q .non H) ∧ (r.rs.length ≠ 1 → ∀ q H', Ext H H' → LullAt A H' q r.m r.tu r.lo r.qu → Q (.ref q) H')
theorem bD_yes {n a b : Int} (h1 : a ≤ n) (h2 : n ≤ b) : betD (.int n) a b = true := by
  rw [bet_int, decide_eq_true h1, decide_eq_true h2]
  rfl
theorem lullDue_ok {d t l q : Int} (d1 : 1 ≤ d) (d2 : d ≤ 50) (t1 : 2 * d ≤ t) (t2 : t ≤ 200) (l1 : 1 ≤ l) (l2 : l ≤ 3) (q1 : 1 ≤ q) (q2 : q ≤ 500) : lullDue (.int d) (.int t) (.int l) (.int q) = none := by
  rw [lullDue_yes (bD_yes d1 d2)]
  unfold lullDue2 quietDue
  rw [bD_yes t1 t2, bD_yes l1 l2, bD_yes q1 q2]
  rfl
theorem ok_lullOf {f : Addr} {fd : FuncData} (F : Fun K "lull_of" "lull_of" s_lull_of f fd) (T : Txt K mg A) (O_Lull : OwnC P w K mg base (L2.CX P w) "Lull" A.Lull 5 pm_Lull_init (spLullInit K A)) : FnOk P w K mg base CX0 7 f fd pm_lull_of (spLullOf K A) := by
  refine F.ok sc_lull_of (fun vs H Q E h => ?_) (fun cdv A' outer s H vs Q E hr h => ?_)
  · obtain ⟨_, _, rfl, _⟩ := h
    rfl
  · obtain ⟨p, r, rfl, ⟨wp, ⟨dx, Tp, hp, hT⟩, hw⟩, m1, m2, t1, t2, l1, l2, q1, q2, k1, k2⟩ := h
    refine ⟨_, pss_cons (ps_if (pt_cmpR op_eq (pe_callB call_len_seq (by rfl) T.n_len (by decide +kernel) (pa_cons (pe_fld (pv 0) rfl) pa_nil)) (pe_int) (nomark _)) (pss_one (ps_ret (pe_non))) (pss_nil))
      (pss_one (ps_ret (pe_new O_Lull (hr.mono (by decide)) passL (pa_cons (pe_fld (pe_fld (pv 0) rfl) rfl) (pa_cons (pe_fld (pv 0) rfl) (pa_cons (pe_fld (pv 0) rfl) (pa_cons (pe_fld (pv 0) rfl) pa_nil))))))), ?_⟩
    obtain ⟨dw, Tw, ws, hwp, _⟩ := id hw
    refine ⟨_, rfl, p, A.Road, dx, _, _, rfl, hp, T.Road.cl, T.r_rows, rfl, Tp, _, rfl, .inr hT, rfl, _, rfl, ?_⟩
    rw [dvi, List.length_map]
    by_cases h : (r.rs.length : Int) = 1
    · rw [decide_eq_true h]
      exact iteT (k1 (by omega))
    · rw [decide_eq_false h]
      refine iteF ⟨_, rfl, p, A.Road, dx, _, _, rfl, hp, T.Road.cl, T.r_way, rfl, wp, A.Way, dw, _, _, rfl, hwp, T.Way.cl, T.w_most, rfl, _, rfl, p, A.Road, dx, _, _, rfl, hp, T.Road.cl, T.r_turn, rfl, _, rfl, p, A.Road, dx, _, _, rfl, hp, T.Road.cl, T.r_losses, rfl, _, rfl, p, A.Road, dx, _, _, rfl, hp, T.Road.cl, T.r_quiet, rfl, fun x0 dx0 hx0 hdx hne => ?_⟩
      have e3 := (Ext.upd (o := .own x0) hdx).upd' (o := .ins A.Lull dx0 []) (by rw [upd_ne hne.symm]; exact hx0)
      refine ⟨x0, dx0, _, _, _, _, _, _, _, _, rfl, upd_same, .int r.m, .int r.tu, .int r.lo, .int r.qu, fun s hs => ?_, fun di ti li qi e1 e2 e3' e4 _ H' hl hB => ⟨rfl, ?_⟩⟩
      · rw [lullDue_ok m1 m2 t1 t2 l1 l2 q1 q2] at hs
        cases hs
      · cases e1
        cases e2
        cases e3'
        cases e4
        exact k2 (by omega) x0 H' (fun a u h => hB a u (ne_of_none h hx0) (e3 a u h)) hl
end
end K29

set_option Elab.async false
set_option maxRecDepth 100000
set_option maxHeartbeats 4000000
namespace K29
open PySem PySem.Spec PyProof.Rows L2
theorem get_int {S : List Int} {i : Nat} (h : i < S.length) : (S.map V.int)[i]? = some (.int (S.getD i 0)) := by
  rw [List.getElem?_map, List.getD_eq_getElem?_getD, List.getElem?_eq_getElem h]
  rfl
/-! ### what is drawn by -/
def PoolD (H : Hp) (st : Addr) : Prop := ∃ a b : Int, H st = some (.lst [.int a, .int b]) ∧ 0 ≤ b ∧ b < 2147483647
def ExtM (st : Addr) (H H' : Hp) : Prop := ∀ x o, x ≠ st → H x = some o → H' x = some o
theorem ExtM.rfl' {st : Addr} {H : Hp} : ExtM st H H := fun _ _ _ h => h
theorem ExtM.trans {st : Addr} {H H1 H2 : Hp} (a : ExtM st H H1) (c : ExtM st H1 H2) : ExtM st H H2 := fun x o h e => c x o h (a x o h e)
theorem Ext.m {st : Addr} {H H' : Hp} (h : Ext H H') : ExtM st H H' := fun x o _ e => h x o e
theorem PoolD.ext {st : Addr} {H H' : Hp} (h : PoolD H st) (e : Ext H H') : PoolD H' st := by
  obtain ⟨a, b, hs, h⟩ := h
  exact ⟨a, b, e _ _ hs, h⟩
theorem PoolD.new {st l : Addr} {H : Hp} (h : PoolD H st) (hl : H l = none) : l ≠ st := by
  obtain ⟨a, b, hs, _⟩ := h
  exact (ne_of_none hs hl).symm
theorem ExtM.none {st t : Addr} {H H' : Hp} (e : ExtM st H H') (h1 : t ≠ st) (h : H' t = none) : H t = none := by
  cases z : H t with
  | none => rfl
  | some o =>
    rw [e t o h1 z] at h
    cases h
theorem mut1 {st : Addr} (o : HO) (H1 : Hp) : ExtM st H1 (upd H1 st o) := fun x u hx h => by
  rw [upd_ne hx]
  exact h
section
variable {P : Program} {w : World} {K : PySem.W.Frag} {mg : Str → Option Value} {base : Heap} {A : Ad}
def spPool (K : PySem.W.Frag) : Sp := fun vs H Q _ => ∃ (sc : Addr) (ns : List Int) (k : Nat), vs = [.ref sc, .int (k : Int)] ∧ SqL K H sc (ns.map V.int) ∧ ns.length ≤ 63 ∧ k ≤ 100 ∧ ∀ st H', Ext H H' → H st = none → PoolD H' st → Q (.ref st) H'
theorem ok_pool {f : Addr} {fd : FuncData} (F : Fun K "_law_pool" "_law_pool" s__law_pool f fd) (T : Txt K mg A) : FnOk P w K mg base CX0 1 f fd pm__law_pool (spPool K) := by
  refine F.ok sc__law_pool (fun vs H Q E h => ?_) (fun cdv A' outer s H vs Q E hr h => ?_)
  · obtain ⟨_, _, _, rfl, _⟩ := h
    rfl
  · obtain ⟨sc, ns, k, rfl, hs, hl, hk, q⟩ := h
    refine ⟨_, pss_cons (ps_set (i := 2) sc__law_pool.nd rfl (Or.inl rfl) (pe_int))
      (Evl.pss_cut (ps_if (pt_cmpR op_lt (pv 1) (pe_callB call_len_seq (by rfl) T.n_len (by decide +kernel) (pa_cons (pv 0) pa_nil)) (nomark _)) (pss_one (ps_set (i := 2) sc__law_pool.nd rfl (Or.inl rfl) (pe_ix ix_list (pv 0) (pv 1) (fun _ _ => rfl)))) (pss_nil))
      (pss_cons (ps_set (i := 3) sc__law_pool.nd rfl (Or.inl rfl) (pe_callB (call_max2 rfl) (by rfl) T.n_max (by decide +kernel) (pa_cons (pe_callTy call_int1 (by rfl) T.n_int (by decide +kernel) (pa_cons (pv 2) pa_nil)) (pa_cons (pe_callTy call_int1 (by rfl) T.n_int (by decide +kernel) (pa_cons (pe_op op_sub (pe_un un_neg (pe_int)) (pv 2)) pa_nil)) pa_nil))))
      (pss_cons (ps_set (i := 4) sc__law_pool.nd rfl (Or.inl rfl) (pe_op op_mod (pe_callTy call_int1 (by rfl) T.n_int (by decide +kernel) (pa_cons (pe_op op_mul (pe_op op_add (pe_op op_add (pe_op op_add (pe_op op_mod (pe_callTy call_int1 (by rfl) T.n_int (by decide +kernel) (pa_cons (pv 3) pa_nil)) (pe_int)) (pe_op op_mul (pe_op op_mul (pe_int) (pv 1)) (pv 1))) (pe_op op_mul (pe_int) (pv 1))) (pe_int)) (pe_int)) pa_nil)) (pe_int)))
      (pss_one (ps_ret (pe_lst (pa_cons (pe_op op_mul (pv 3) (pe_callTy call_int1 (by rfl) T.n_int (by decide +kernel) (pa_cons (pe_cmpR op_ge (pv 3) (pe_op op_pow (pe_int) (pe_int)) (nomark _)) pa_nil))) (pa_cons (pv 4) pa_nil)))))))), ?_⟩
    refine ⟨fun σ H' => ∃ c : Int, σ = [some (.ref sc), some (.int (k : Int)), some (.int c), Option.none, Option.none] ∧ H' = H, ?_, ?_⟩
    · refine ⟨_, rfl, _, rfl, sc, _, rfl, .inl hs, _, _, rfl, rfl, _, rfl, ?_⟩
      rw [List.length_map]
      by_cases hkl : (k : Int) < (ns.length : Int)
      · rw [decide_eq_true hkl]
        refine iteT ⟨_, rfl, _, rfl, sc, _, _, .int (ns.getD k 0), rfl, rfl, hs, atI_nat (get_int (by omega)), _, rfl, rfl⟩
      · rw [decide_eq_false hkl]
        exact iteF ⟨_, rfl, rfl⟩
    · rintro σ H' ⟨c, rfl, rfl⟩
      refine ⟨_, rfl, .inl ⟨_, rfl, _, rfl, _, rfl, _, _, rfl, rfl, .inl ⟨_, rfl, _, _, rfl, ?_⟩⟩⟩
      dsimp only
      generalize (if -1 - c > c then -1 - c else c) = big
      refine ⟨_, rfl, .inl ⟨_, rfl, _, _, rfl, rfl, (show (0 : Int) < 2147483629 by decide), _, rfl, _, _, rfl, rfl, .inl ⟨by decide, by decide⟩, _, rfl, _, _, rfl, rfl, .inl ⟨by omega, by omega⟩, _, _, rfl, rfl, _, rfl, _, _, rfl, rfl, .inl ⟨by decide, by decide⟩, _, _, rfl, rfl, _, _, rfl, rfl, _, _, rfl, rfl, .inr ⟨by decide, by decide⟩, .inl ⟨_, rfl, _, _, rfl, rfl, (show (0 : Int) < 2147483647 by decide), ?_⟩⟩⟩
      refine ⟨_, rfl, _, rfl, _, _, rfl, rfl, ⟨by decide, by decide, by decide⟩, _, _, rfl, rfl, .inr ⟨_, rfl, _, _, rfl, rfl, .inr ?_, _, rfl, by show 2 ≤ sizeLine; decide, fun st hst => ?_⟩⟩
      · split <;> decide
      · exact q st _ (Ext.upd hst) hst ⟨_, _, upd_same, Int.emod_nonneg _ (by decide), Int.emod_lt_of_pos _ (by decide)⟩
def spTake : Sp := fun vs H Q _ => ∃ (st : Addr) (B : Int), vs = [.ref st, .int B] ∧ PoolD H st ∧ 1 ≤ B ∧ B ≤ 100000 ∧ ∀ n H', 0 ≤ n → n < B → PoolD H' st → ExtM st H H' → Q (.int n) H'
theorem ok_take {f : Addr} {fd : FuncData} (F : Fun K "_law_take" "_law_take" s__law_take f fd) (T : Txt K mg A) : FnOk P w K mg base CX0 1 f fd pm__law_take spTake := by
  refine F.ok sc__law_take (fun vs H Q E h => ?_) (fun cdv A' outer s H vs Q E hr h => ?_)
  · obtain ⟨_, _, rfl, _⟩ := h
    rfl
  · obtain ⟨st, B, rfl, ⟨a, b, hst, b0, b1⟩, hB, hB2, k⟩ := h
    refine ⟨_, pss_cons (ps_if (pt_cmpR op_gt (pe_ix ix_list (pv 0) (pe_int) (fun _ _ => rfl)) (pe_int) (nomark _)) (pss_cons (ps_set (i := 2) sc__law_take.nd rfl (Or.inl rfl) (pe_op op_modN (pe_callTy call_int1 (by rfl) T.n_int (by decide +kernel) (pa_cons (pe_ix ix_list (pv 0) (pe_int) (fun _ _ => rfl)) pa_nil)) (pv 1)))
      (pss_cons (ps_asg (pe_op op_fdivN (pe_ix ix_list (pv 0) (pe_int) (fun _ _ => rfl)) (pv 1)) (pg_sub (pv 0) (pe_int) set_list))
      (pss_one (ps_ret (pv 2))))) (pss_nil))
      (pss_cons (ps_asg (pe_op op_mod (pe_callTy call_int1 (by rfl) T.n_int (by decide +kernel) (pa_cons (pe_op op_add (pe_op op_mul (pe_ix ix_list (pv 0) (pe_int) (fun _ _ => rfl)) (pe_int)) (pe_int)) pa_nil)) (pe_int)) (pg_sub (pv 0) (pe_int) set_list))
      (pss_one (ps_ret (pe_op op_modN (pe_callTy call_int1 (by rfl) T.n_int (by decide +kernel) (pa_cons (pe_op op_fdiv (pe_op op_mod (pe_callTy call_int1 (by rfl) T.n_int (by decide +kernel) (pa_cons (pe_op op_mul (pe_ix ix_list (pv 0) (pe_int) (fun _ _ => rfl)) (pe_ix ix_list (pv 0) (pe_int) (fun _ _ => rfl))) pa_nil)) (pe_int)) (pe_int)) pa_nil)) (pv 1))))), ?_⟩
    refine ⟨_, rfl, st, _, 0, .int a, rfl, rfl, SqL.of hst, rfl, _, _, rfl, rfl, _, rfl, ?_⟩
    by_cases ha : a > 0
    · rw [decide_eq_true ha]
      refine iteT ⟨_, rfl, st, _, 0, .int a, rfl, rfl, SqL.of hst, rfl, .inl ⟨_, rfl, _, rfl, _, _, rfl, rfl, (by show B ≠ 0; omega), ?_⟩⟩
      refine ⟨_, rfl, st, _, 0, .int a, rfl, rfl, SqL.of hst, rfl, _, rfl, _, _, rfl, rfl, ⟨by omega, by omega⟩, _, rfl, st, _, 0, 0, rfl, rfl, hst, rfl, ?_⟩
      exact ⟨_, rfl, k _ _ (Int.fmod_nonneg_of_pos _ (by omega)) (Int.fmod_lt_of_pos _ (by omega)) ⟨_, _, upd_same, b0, b1⟩ (mut1 _ _)⟩
    · rw [decide_eq_false ha]
      refine iteF ?_
      refine ⟨_, rfl, st, _, 1, .int b, rfl, rfl, SqL.of hst, rfl, _, _, rfl, rfl, .inr ⟨by decide, by decide⟩, _, _, rfl, rfl, .inl ⟨_, rfl, _, _, rfl, rfl, (show (0 : Int) < 2147483647 by decide), ?_⟩⟩
      refine ⟨_, rfl, st, _, 1, 1, rfl, rfl, hst, rfl, ?_⟩
      have c0 : 0 ≤ (b * 39373 + 7) % 2147483647 := Int.emod_nonneg _ (by decide)
      have c1 : (b * 39373 + 7) % 2147483647 < 2147483647 := Int.emod_lt_of_pos _ (by decide)
      generalize hz : (b * 39373 + 7) % 2147483647 = c at c0 c1
      have hs1 : upd H st (.lst ([V.int a, .int b].set 1 (.int ((b * 39373 + 7) % 2147483647)))) st = some (.lst [.int a, .int c]) := by rw [hz, upd_same]; rfl
      have x1 : ExtM st H (upd H st (.lst ([V.int a, .int b].set 1 (.int ((b * 39373 + 7) % 2147483647))))) := mut1 _ _
      generalize upd H st (.lst ([V.int a, .int b].set 1 (.int ((b * 39373 + 7) % 2147483647)))) = H1 at hs1 x1 ⊢
      refine ⟨_, rfl, st, _, 1, .int c, rfl, rfl, SqL.of hs1, rfl, _, rfl, st, _, 1, .int c, rfl, rfl, SqL.of hs1, rfl, _, _, rfl, rfl, .inl ⟨by omega, by omega⟩, .inl ⟨_, rfl, _, _, rfl, rfl, (show (0 : Int) < 2147483629 by decide), ?_⟩⟩
      refine ⟨_, _, rfl, rfl, ⟨by decide, by decide⟩, .inl ⟨_, rfl, _, rfl, _, _, rfl, rfl, (by show B ≠ 0; omega), ?_⟩⟩
      exact k _ _ (Int.fmod_nonneg_of_pos _ (by omega)) (Int.fmod_lt_of_pos _ (by omega)) ⟨_, _, hs1, c0, c1⟩ x1
def spOne : Sp := fun vs H Q _ => ∃ (st l : Addr) (xs : List V), vs = [.ref st, .ref l] ∧ PoolD H st ∧ H l = some (.lst xs) ∧ l ≠ st ∧ 1 ≤ xs.length ∧ xs.length ≤ 1000 ∧ ∀ (i : Nat) (v : V) H', xs[i]? = some v → PoolD H' st → ExtM st H H' → Q v H'
theorem ok_one {f : Addr} {fd : FuncData} (F : Fun K "_law_one" "_law_one" s__law_one f fd) (T : Txt K mg A) (O__law_take : Own P w K mg base CX0 "_law_take" 1 pm__law_take spTake) : FnOk P w K mg base CX0 2 f fd pm__law_one spOne := by
  refine F.ok sc__law_one (fun vs H Q E h => ?_) (fun cdv A' outer s H vs Q E hr h => ?_)
  · obtain ⟨_, _, _, rfl, _⟩ := h
    rfl
  · obtain ⟨st, l, xs, rfl, hst, hl, hne, h1, h2, k⟩ := h
    refine ⟨_, pss_one (ps_ret (pe_ix ix_list (pv 1) (pe_own O__law_take (hr.mono (by decide)) pass0 (pa_cons (pv 0) (pa_cons (pe_callB call_len_seq (by rfl) T.n_len (by decide +kernel) (pa_cons (pv 1) pa_nil)) pa_nil))) (fun _ _ => rfl))), ?_⟩
    refine ⟨_, rfl, _, rfl, _, rfl, l, xs, rfl, .inl (SqL.of hl), st, _, rfl, hst, by omega, by omega, fun n H1 n0 n1 st1 x1 => ?_⟩
    obtain ⟨i, rfl⟩ : ∃ i : Nat, n = (i : Int) := ⟨n.toNat, by omega⟩
    obtain ⟨v, hv⟩ : ∃ v, xs[i]? = some v := ⟨_, List.getElem?_eq_getElem (by omega)⟩
    exact ⟨l, xs, _, v, rfl, rfl, SqL.of (x1 l _ hne hl), atI_nat hv, k i v H1 hv st1 x1⟩
/-- what is put in -/
def oddL : List V := [.int 0, .int (-1), .int 51, .int 201, .int 4, .int 501, .int 1, .int 50, .int 3, .int 200, .bl true, .str "1", .non, .int (10 ^ 19)]
theorem odd_fl : ∀ v ∈ oddL, Fl v := fun v hv => by
  simp only [oddL, List.mem_cons, List.not_mem_nil, or_false] at hv
  rcases hv with rfl | rfl | rfl | rfl | rfl | rfl | rfl | rfl | rfl | rfl | rfl | rfl | rfl | rfl
  all_goals first | trivial | (show PySem.PyData.canLay0 (.str "1") = true; decide +kernel)
def spSpoilt (K : PySem.W.Frag) : Sp := fun vs H Q _ => ∃ (st q : Addr) (xs : List V), vs = [.ref st, .ref q] ∧ PoolD H st ∧ SqL K H q xs ∧ 1 ≤ xs.length ∧ xs.length ≤ 10 ∧
  ∀ r ys H', H' r = some (.lst ys) → ys.length = xs.length → (∀ (i : Nat) (y : V), ys[i]? = some y → xs[i]? = some y ∨ Fl y) → r ≠ st → H r = none → PoolD H' st → ExtM st H H' → Q (.ref r) H'
theorem ok_spoilt {f : Addr} {fd : FuncData} (F : Fun K "_law_spoilt" "_law_spoilt" s__law_spoilt f fd) (T : Txt K mg A) (O__law_take : Own P w K mg base CX0 "_law_take" 1 pm__law_take spTake) (O__law_one : Own P w K mg base CX0 "_law_one" 2 pm__law_one spOne) : FnOk P w K mg base CX0 3 f fd pm__law_spoilt (spSpoilt K) := by
  refine F.ok sc__law_spoilt (fun vs H Q E h => ?_) (fun cdv A' outer s H vs Q E hr h => ?_)
  · obtain ⟨_, _, _, rfl, _⟩ := h
    rfl
  · obtain ⟨st, q, xs, rfl, st0, hq, h1, h2, k⟩ := h
    refine ⟨_, pss_cons (ps_set (i := 2) sc__law_spoilt.nd rfl (Or.inl rfl) (pe_callTy call_list_of (by rfl) T.n_list (by decide +kernel) (pa_cons (pv 1) pa_nil)))
      (pss_cons (ps_for PassesOwn.never rfl (pi_range1 rfl T.n_range (pa_cons (pe_own O__law_take (hr.mono (by decide)) pass0 (pa_cons (pv 0) (pa_cons (pe_int) pa_nil))) pa_nil)) (pg_name (i := 3) sc__law_spoilt.nd rfl (Or.inl rfl)) (pss_cons (ps_set (i := 4) sc__law_spoilt.nd rfl (Or.inl rfl) (pe_own O__law_take (hr.mono (by decide)) pass0 (pa_cons (pv 0) (pa_cons (pe_callB call_len_seq (by rfl) T.n_len (by decide +kernel) (pa_cons (pv 2) pa_nil)) pa_nil))))
      (pss_one (ps_asg (pe_own O__law_one (hr.mono (by decide)) pass0 (pa_cons (pv 0) (pa_cons (pe_lst (pa_cons (pe_int) (pa_cons (pe_un un_neg (pe_int)) (pa_cons (pe_int) (pa_cons (pe_int) (pa_cons (pe_int) (pa_cons (pe_int) (pa_cons (pe_int) (pa_cons (pe_int) (pa_cons (pe_int) (pa_cons (pe_int) (pa_cons (pe_bl) (pa_cons (pe_str) (pa_cons (pe_non) (pa_cons (pe_op op_pow (pe_int) (pe_int)) pa_nil))))))))))))))) pa_nil))) (pg_sub (pv 2) (pv 4) set_list)))))
      (pss_one (ps_ret (pv 2)))), ?_⟩
    refine ⟨_, rfl, q, xs, rfl, .inl hq, fun r hr0 => ?_⟩
    have e0 := Ext.upd (o := .lst xs) hr0
    have nr := st0.new hr0
    refine ⟨_, rfl, st, 3, rfl, st0.ext e0, by decide, by decide, fun n H1 n0 n3 st1 x1 => ⟨n, rfl, by omega, by omega, ?_⟩⟩
    refine for_range (fun i σ' H' => ∃ (ys : List V) (o3 o4 : Option V), σ' = [some (.ref st), some (.ref q), some (.ref r), o3, o4] ∧ H' r = some (.lst ys) ∧ ys.length = xs.length ∧ (∀ (i : Nat) (y : V), ys[i]? = some y → xs[i]? = some y ∨ Fl y) ∧ PoolD H' st ∧ ExtM st H H') ⟨xs, _, _, rfl, x1 _ _ nr upd_same, rfl, fun i y h => .inl h, st1, (Ext.m e0).trans x1⟩ (fun i σ' H' hi pv => ?_) (fun σ' H' pv => ?_)
    · obtain ⟨ys, o3, o4, rfl, hy, hyl, hys, stp, xp⟩ := pv
      refine ⟨_, rfl, _, rfl, r, ys, rfl, .inl (SqL.of hy), st, _, rfl, stp, by omega, by omega, fun m H2 m0 m1 st2 x2 => ?_⟩
      have hy2 := x2 _ _ nr hy
      refine ⟨_, rfl, _, rfl, _, _, rfl, rfl, ⟨by decide, by decide, by decide⟩, by show 14 ≤ sizeLine; decide, fun l hl => ?_⟩
      have el := Ext.upd (o := .lst oddL) hl
      refine ⟨st, l, oddL, rfl, st2.ext el, upd_same, st2.new hl, by decide, by decide, fun j v H3 hv st3 x3 => ?_⟩
      have hy3 := x3 _ _ nr (el _ _ hy2)
      obtain ⟨mm, rfl⟩ : ∃ mm : Nat, m = (mm : Int) := ⟨m.toNat, by omega⟩
      refine ⟨_, rfl, _, rfl, r, ys, _, mm, rfl, rfl, hy3, ?_, ?_⟩
      · unfold ixN
        repeat' split
        all_goals first | (simp; done) | (exfalso; omega) | (congr 1; omega)
      · refine ⟨ys.set mm v, _, _, rfl, upd_same, by rw [List.length_set]; exact hyl, fun i y hy' => ?_, ?_, ?_⟩
        · by_cases e : i = mm
          · subst e
            rw [List.getElem?_set_self (by omega)] at hy'
            cases hy'
            exact .inr (odd_fl _ (List.mem_of_getElem? hv))
          · rw [List.getElem?_set_ne (fun z => e z.symm)] at hy'
            exact hys i y hy'
        · obtain ⟨a, b, hs, hb⟩ := st3
          exact ⟨a, b, by rw [upd_ne nr.symm]; exact hs, hb⟩
        · exact fun x u hx hu => by
            rw [upd_ne (ne_of_none hu hr0)]
            exact (((xp.trans x2).trans (Ext.m el)).trans x3) x u hx hu
    · obtain ⟨ys, o3, o4, rfl, hy, hyl, hys, stp, xp⟩ := pv
      exact ⟨_, rfl, k r ys _ hy hyl hys nr hr0 stp xp⟩
end
end K29

set_option Elab.async false
set_option maxRecDepth 100000
set_option maxHeartbeats 4000000
namespace K29
open PySem PySem.Spec PyProof.Rows L2
/-- what the teller makes of an error -/
def EW (A : Ad) (Q : VK) : XK := fun cls d H =>
  cls = .ref A.BadPart ∧ ∃ (dd : Addr) (v : V), d = some dd ∧ H dd = some (.xd [("part", v)]) ∧ ∀ r H2, Ext H H2 → H2 r = some (.lst [.str "part", v, .bl true]) → Q (.ref r) H2
def TTn (A : Ad) : (XK → Hp → VK → Prop) → Hp → VK → Prop := fun tl H Q => tl (EW A Q) H Q
def tsX (K : PySem.W.Frag) (A : Ad) (C : Addr) (fld wd : Str) : SuT := fun a cls d => tRet (tLst (tCons (tC (.str wd)) (tCons (tXf a cls d C fld (tVar 1)) (tCons (tCB (rIsED K C a cls d) (tCons (tVar 1) (tCons (tC (.ref A.WholeError)) tNil))) tNil))))
theorem takesLen {X : Cx} {W : WX} (tk : Takes X W) (h : X.N.length = 2) : Takes X (fun cls d σ H => σ.length = 2 → W cls d σ H) := fun u s' ⟨a, B, sI, pins, σ, H, cls, d, e, I, nb, up, sky, na, os, ag, w⟩ =>
  tk u s' ⟨a, B, sI, pins, σ, H, cls, d, e, I, nb, up, sky, na, os, ag, w (I.len.trans h)⟩
section
variable {X : Cx} {A : Ad}
theorem told_gives (T : Txt X.K X.mg A) {g : Addr} {cdg : Value} {q : Str} : LamX.GivesTo X nm__law_told "_law_told" (defScope s__law_told) g cdg (defBody s__law_told) "_law_function" q (TTn A) := by
  intro f c' s H Q tl act hc h
  refine ⟨_, pss_one (ps_try_manyA (X := (cxOf C8.CX0 X.prog X.w X.K X.mg X.base nm__law_told "_law_told" (defScope s__law_told) g cdg X.A X.stack s H C8.E0).nox)
      (tb := fun W => tRet (fun σ H Q => ∃ E : XK, (∀ cls d σ' H', E cls d H' → σ'.length = 2 → W cls d σ' H') ∧ σ[0]? = some (some (.ref f)) ∧ H c' = some (LamX.CodeO c' q) ∧ tl E H Q))
      (l := [(.ref A.BadPart, 1, tsX X.K A A.BadPart "part" "part")]) (Wo := fun _ _ _ _ => False) rfl rfl sc__law_told.nd LamX.takes0
      (fun W pn xe tk _ => pss_one (ps_ret ⟨fun pins s' σ H' Q I h' => ?_⟩))
      (.cons rfl rfl ⟨rfl, by decide, Or.inl T.BadPart.gC⟩ (fun a oe cls d pn hz hf => pss_one (ps_ret (pe_lst (pa_cons pe_str (pa_cons (by exact (pe_xf ⟨T.BadPart.ec.hg, T.BadPart.ec.hk, T.BadPart.ec.hs, T.BadPart.ec.hd⟩ T.BadPart.noA hz hf (pv 1))) (pa_cons (by exact (pe_callB (call_isEX T.BadPart.ec hz hf) (by rfl) T.n_isinstance (by decide +kernel) (pa_cons (pv 1) (pa_cons (pe_gcls T.g_WholeError) pa_nil)))) pa_nil)))))) .nil)), ?_⟩
  · obtain ⟨E, hW, h1, h2, h3⟩ := h'
    exact (act (fun cls d σ H => σ.length = 2 → W cls d σ H) pn xe E _ _ (takesLen tk rfl) (fun cls d σ' H' he hl => hW cls d σ' H' he hl)).run pins s' σ H' Q I ⟨h1, h2, h3⟩
  · refine ⟨EW A Q, fun cls d σ' H' he hl => ?_, rfl, hc, h⟩
    obtain ⟨rfl, dd, v, rfl, hdd, k⟩ := he
    refine ⟨true, T.x_pp, fun _ a ha => ?_, fun z => nomatch z⟩
    have hs : (σ'.set 1 (some (V.ref a)))[1]? = some (some (.ref a)) := by rw [List.getElem?_set_self (by omega)]
    exact ⟨_, hs, rfl, rfl, dd, _, _, rfl, hdd, rfl, _, hs, rfl, (fun dd h => ⟨_, by cases h; exact hdd⟩), .ref A.WholeError, .ref A.WholeError, true, rfl, fun u h => h, T.k_pw, by show 3 ≤ sizeLine; decide, fun r hr => k r _ (Ext.upd hr) upd_same⟩
/-- the names of the three that make lambdas -/
def lamQ (x : Str) : Str := x ++ (".<locals>." : Str) ++ ("<lambda>" : Str)
/-- their tables -/
structure Tb3 where
  (p1 p2 p3 : Addr)
  (n12 : p1 ≠ p2) (n13 : p1 ≠ p3) (n23 : p2 ≠ p3)
def Tb3.l (t : Tb3) : List (Addr × Str) := [(t.p1, lamQ "law"), (t.p2, lamQ "_law_lulls_right"), (t.p3, lamQ "_law_roads_right")]
/-- told(lambda: ..), from the def of the name x, its table at Pt -/
theorem pe_told {c Pt : Addr} {k : Nat} {params : Arguments} {body : Expr} {scope : Scope} {t : XK → TE} {p lpos pos : Pos} (sc : Scope) (hsc : X.env.scope = sc) (x : Str) (Ts : List (Addr × Str)) (hm : (Pt, lamQ x) ∈ Ts) (hu : ∀ p ∈ Ts, p.1 = Pt → p.2 = lamQ x)
    (D : DefAt X.K X.mg "_law_told" s__law_told pm__law_told) (T : Txt X.K X.mg A) (TB : LamX.TabB X.base X.mg c Pt) (hcode : X.env.code = .ref c) (hq : X.env.qual = x ++ (".<locals>." : Str))
    (hr : Room (k + 2) X.A) (hbody : ∀ (A' : Around) (outer : List Env) (s : Shared) (H : Hp) (E : XK) (f c' : Addr), Room k (A'.deeper (LamX.lamEnv X scope s.heap.objs.size f c')) → PE (LamX.lamCx X A' outer s H E scope f c') body (t E))
    (hg : Gl X "_law_told" := by rfl) (L : LamX.LamS sc scope := by exact LamX.lamS_by (by decide +kernel)) (hdef : defaultsOf params X.env = ([], []) := by rfl)
    (hbind : ∀ (q : Str) (cl : List (Str × Addr)) (pm cv ctv : Value), bindArgs (PySem.W.kla_fn "<lambda>" q params body scope cl pm cv ctv) ⟨[], []⟩ = pure [] := by intros; rfl) :
    PE X (.Call (.Name "_law_told" p) [.Lambda params body scope lpos] [] pos) (LamX.tLam Ts (TTn A) t) := by
  have e : X.env.qual ++ ("<lambda>" : Str) = lamQ x := by rw [hq]; rfl
  obtain ⟨g, fd, F, hmg, hb⟩ := D.ex
  have kp := F.kp
  obtain ⟨oc, od, kV, doc, pm, an, cdv, ct, osl, rfl, lk, hcd⟩ := F.ex
  exact LamX.pe_lamcall hg hmg kp lk hcd hb sc__law_told rfl (by first | exact Or.inl rfl | exact Or.inr (Or.inl rfl) | exact Or.inr (Or.inr rfl)) (told_gives T) TB hcode (by rw [e]; exact hm) (by rw [e]; exact hu) hr (by rw [hsc]; exact L) hdef hbind hbody
/-! what stays while tables grow -/
theorem extN {H H' : Hp} (e : Ext H H') : LamX.ExtN H H' := .of e
theorem nT_lst {xs : List V} : ∀ ps, HO.lst xs ≠ .tbl ps := fun _ z => by cases z
theorem nT_tup {xs : List V} : ∀ ps, HO.tup xs ≠ .tbl ps := fun _ z => by cases z
theorem nT_ins {C dx : Addr} {fs : List (Str × V)} : ∀ ps, HO.ins C dx fs ≠ .tbl ps := fun _ z => by cases z
section
variable {K : PySem.W.Frag} {H H' : Hp} {a : Addr} {xs : List V}
theorem sqL_n (h : SqL K H a xs) (e : LamX.ExtN H H') : SqL K H' a xs := by
  rcases h with (h | ⟨o, h⟩) | h
  · exact .inl (.inl (e _ _ h nT_lst))
  · exact .inl (.inr ⟨o, e _ _ h (fun _ z => by cases z)⟩)
  · exact .inr h
theorem sqT_n (h : SqT K H a xs) (e : LamX.ExtN H H') : SqT K H' a xs := by
  rcases h with (h | ⟨o, h⟩) | h
  · exact .inl (.inl (e _ _ h nT_tup))
  · exact .inl (.inr ⟨o, e _ _ h (fun _ z => by cases z)⟩)
  · exact .inr h
mutual
theorem dp_n (e : LamX.ExtN H H') : ∀ (d : PyData) (v : V), Dp K H v d → Dp K H' v d
  | .none, _, h => by cases h; exact .non
  | .bool _, _, h => by cases h; exact .bl _
  | .int _, _, h => by cases h; exact .int _
  | .str _, _, h => by cases h; exact .str _
  | .list ds, _, h => by
    cases h with
    | lst hs ha => exact .lst (sqL_n hs e) (dps_n e ds _ ha)
  | .tuple ds, _, h => by
    cases h with
    | tup hs ha => exact .tup (sqT_n hs e) (dps_n e ds _ ha)
  | .dict _, _, h => by cases h
theorem dps_n (e : LamX.ExtN H H') : ∀ (ds : List PyData) (vs : List V), DpAll K H vs ds → DpAll K H' vs ds
  | [], _, h => by cases h; exact .nil
  | d :: ds, _, h => by
    cases h with
    | cons h1 h2 => exact .cons (dp_n e d _ h1) (dps_n e ds _ h2)
end
theorem MyWay.n {A : Ad} {p : Addr} {b : Option Int} {l m : Int} {bs : List Bx} (h : MyWay K A H p b l m bs) (e : LamX.ExtN H H') : MyWay K A H' p b l m bs := by
  obtain ⟨dx, T', xs, h1, h2, h3⟩ := h
  exact ⟨dx, T', xs, e _ _ h1 nT_ins, sqT_n h2 e, dps_n e _ _ h3⟩
theorem RdAt.n {A : Ad} {p : Addr} {r : RdD} (h : RdAt K A H p r) (e : LamX.ExtN H H') : RdAt K A H' p r := by
  obtain ⟨wp, ⟨dx, T, h1, h2⟩, h3⟩ := h
  exact ⟨wp, ⟨dx, T, e _ _ h1 nT_ins, sqT_n h2 e⟩, h3.n e⟩
end
theorem LullAt.n {A : Ad} {H H' : Hp} {p : Addr} {d t l z : Int} (h : LullAt A H p d t l z) (e : LamX.ExtN H H') : LullAt A H' p d t l z := by
  obtain ⟨dx, h⟩ := h
  exact ⟨dx, e _ _ h nT_ins⟩
theorem PoolD.n {H H' : Hp} {st : Addr} (h : PoolD H st) (e : LamX.ExtN H H') : PoolD H' st := by
  obtain ⟨a, b, hs, h⟩ := h
  exact ⟨a, b, e _ _ hs nT_lst, h⟩
theorem tabs_m {Ts : List (Addr × Str)} {st : Addr} {H H' : Hp} (t : LamX.Tabs Ts H) (h : PoolD H st) (e : ExtM st H H') : LamX.Tabs Ts H' := fun p hp => by
  obtain ⟨ps, h1, h2, h3⟩ := t p hp
  obtain ⟨a, b, hs, _⟩ := h
  refine ⟨ps, e _ _ (fun z => ?_) h1, h2, fun pos cv hc => ?_⟩
  · rw [z, hs] at h1
    cases h1
  · obtain ⟨c, e1, e2⟩ := h3 pos cv hc
    refine ⟨c, e1, e _ _ (fun z => ?_) e2⟩
    rw [z, hs] at e2
    exact absurd (Option.some.inj e2) (fun z => by cases z)
end
end K29

set_option Elab.async false
set_option maxRecDepth 100000
set_option maxHeartbeats 4000000
namespace K29
open PySem PySem.Spec PyProof.Rows L2
def sV : Option Str → V | none => .non | some s => .str s
theorem pd_betw {v : V} {a b : Int} (h : Fl v) : betD (pd v) a b = betw v a b := by
  cases v <;> first | rfl | exact h.elim
theorem bt {v : V} {a b : Int} (h : betw v a b = true) : ∃ n, v = .int n ∧ a ≤ n ∧ n ≤ b := by
  cases v <;> first | (exact absurd h Bool.false_ne_true) | skip
  rename_i n
  have h' : (decide (a ≤ n) && decide (n ≤ b)) = true := h
  simp at h'
  exact ⟨n, rfl, h'.1, h'.2⟩
def okAt (d t l q : V) : Nat → Prop
  | 0 => betw d 1 50 = true
  | 1 => betw t 1 200 = true ∧ ∀ di ti, d = .int di → t = .int ti → 2 * di ≤ ti
  | 2 => betw l 1 3 = true
  | _ => betw q 1 500 = true
def rowAt (d t l q : V) : Nat → Str × V × Int × Int
  | 0 => ("delay", d, 1, 50)
  | 1 => ("turn", t, 1, 200)
  | 2 => ("losses", l, 1, 3)
  | _ => ("quiet", q, 1, 500)
section
variable {d t l q : V} (fd : Fl d) (ft : Fl t) (fl : Fl l) (fq : Fl q)
include fd ft fl fq
theorem due_bad : ∀ i, i < 4 → (∀ j, j < i → okAt d t l q j) → ¬ okAt d t l q i → lullDue (pd d) (pd t) (pd l) (pd q) = some (rowAt d t l q i).1 := fun i hi hok hbad => by
  by_cases h0 : i = 0
  · subst h0
    refine lullDue_no ?_
    rw [pd_betw fd]
    exact Bool.eq_false_iff.mpr hbad
  · have k0 : betw d 1 50 = true := hok 0 (by omega)
    obtain ⟨di, rfl, d1, d2⟩ := bt k0
    rw [show pd (.int di) = .int di from rfl, lullDue_yes (show betD (.int di) 1 50 = true from k0)]
    by_cases h1 : i = 1
    · subst h1
      have : betD (pd t) (2 * di) 200 = false := by
        rw [pd_betw ft, Bool.eq_false_iff]
        intro z
        obtain ⟨ti, rfl, t1, t2⟩ := bt z
        refine hbad ⟨?_, fun a b ea eb => by cases ea; cases eb; exact t1⟩
        show (decide ((1 : Int) ≤ ti) && decide (ti ≤ 200)) = true
        rw [decide_eq_true (by omega), decide_eq_true t2]
        rfl
      unfold lullDue2
      rw [if_pos this]
      rfl
    · obtain ⟨k1, k1'⟩ : betw t 1 200 = true ∧ ∀ a b, V.int di = .int a → t = .int b → 2 * a ≤ b := hok 1 (by omega)
      obtain ⟨ti, rfl, t1, t2⟩ := bt k1
      have h2di := k1' di ti rfl rfl
      have e1 : betD (pd (.int ti)) (2 * di) 200 = true := bD_yes h2di t2
      by_cases h2 : i = 2
      · subst h2
        have : betD (pd l) 1 3 = false := by
          rw [pd_betw fl]
          exact Bool.eq_false_iff.mpr hbad
        unfold lullDue2
        rw [if_neg (by rw [e1]; decide), if_pos this]
        rfl
      · have e : i = 3 := by omega
        subst e
        have k2 : betw l 1 3 = true := hok 2 (by omega)
        have e2 : betD (pd l) 1 3 = true := by rw [pd_betw fl]; exact k2
        have : betD (pd q) 1 500 = false := by
          rw [pd_betw fq]
          exact Bool.eq_false_iff.mpr hbad
        unfold lullDue2 quietDue
        rw [if_neg (by rw [e1]; decide), if_neg (by rw [e2]; decide), if_pos this]
        rfl
theorem due_good (hok : ∀ j, j < 4 → okAt d t l q j) : lullDue (pd d) (pd t) (pd l) (pd q) = none := by
  have k0 : betw d 1 50 = true := hok 0 (by omega)
  obtain ⟨k1, k1'⟩ : betw t 1 200 = true ∧ ∀ a b, d = .int a → t = .int b → 2 * a ≤ b := hok 1 (by omega)
  have k2 : betw l 1 3 = true := hok 2 (by omega)
  have k3 : betw q 1 500 = true := hok 3 (by omega)
  obtain ⟨di, rfl, d1, d2⟩ := bt k0
  obtain ⟨ti, rfl, t1, t2⟩ := bt k1
  obtain ⟨li, rfl, l1, l2⟩ := bt k2
  obtain ⟨qi, rfl, q1, q2⟩ := bt k3
  exact lullDue_ok d1 d2 (k1' di ti rfl rfl) t2 l1 l2 q1 q2
end
section
variable {P : Program} {w : World} {K : PySem.W.Frag} {mg : Str → Option Value} {base : Heap} {A : Ad}
def spLullWrong : Sp := fun vs H Q _ => ∃ (a : Addr) (d t l q : V), vs = [.ref a] ∧ H a = some (.lst [d, t, l, q]) ∧ Fl d ∧ Fl t ∧ Fl l ∧ Fl q ∧ ∀ H', Ext H H' → Q (sV (lullDue (pd d) (pd t) (pd l) (pd q))) H'
theorem ok_lullWrong {f : Addr} {fd : FuncData} (F : Fun K "_law_lull_wrong" "_law_lull_wrong" s__law_lull_wrong f fd) (T : Txt K mg A) : FnOk P w K mg base CX0 1 f fd pm__law_lull_wrong spLullWrong := by
  refine F.ok sc__law_lull_wrong (fun vs H Q E h => ?_) (fun cdv A' outer s H vs Q E hr h => ?_)
  · obtain ⟨_, _, _, _, _, rfl, _⟩ := h
    rfl
  · obtain ⟨a, d, t, l, q, rfl, ha, fd, ft, fl, fq, k⟩ := h
    refine ⟨_, pss_cons (ps_asg (pv 0) (pg_unl rfl (pgs_cons (pg_name (i := 1) sc__law_lull_wrong.nd rfl (Or.inl rfl)) (pgs_cons (pg_name (i := 2) sc__law_lull_wrong.nd rfl (Or.inl rfl)) (pgs_cons (pg_name (i := 3) sc__law_lull_wrong.nd rfl (Or.inl rfl)) (pgs_cons (pg_name (i := 4) sc__law_lull_wrong.nd rfl (Or.inl rfl)) (pgs_nil)))))))
      (pss_cons (ps_for PassesOwn.never rfl (pi_list (pe_lst (pa_cons (pe_lst (pa_cons (pe_str) (pa_cons (pv 1) (pa_cons (pe_int) (pa_cons (pe_int) pa_nil))))) (pa_cons (pe_lst (pa_cons (pe_str) (pa_cons (pv 2) (pa_cons (pe_int) (pa_cons (pe_int) pa_nil))))) (pa_cons (pe_lst (pa_cons (pe_str) (pa_cons (pv 3) (pa_cons (pe_int) (pa_cons (pe_int) pa_nil))))) (pa_cons (pe_lst (pa_cons (pe_str) (pa_cons (pv 4) (pa_cons (pe_int) (pa_cons (pe_int) pa_nil))))) pa_nil)))))) (pg_unl rfl (pgs_cons (pg_name (i := 5) sc__law_lull_wrong.nd rfl (Or.inl rfl)) (pgs_cons (pg_name (i := 6) sc__law_lull_wrong.nd rfl (Or.inl rfl)) (pgs_cons (pg_name (i := 7) sc__law_lull_wrong.nd rfl (Or.inl rfl)) (pgs_cons (pg_name (i := 8) sc__law_lull_wrong.nd rfl (Or.inl rfl)) (pgs_nil)))))) (pss_cons (ps_if (PW.pt (pw_or (pt_not (pt_val (pe_callB call_isi (by rfl) T.n_isinstance (by decide +kernel) (pa_cons (pv 6) (pa_cons (pe_bltn (v := .ty "int") (by rfl) T.n_int (by decide +kernel) rfl) pa_nil))))) (pw_or (pt_val (pe_callB call_isi (by rfl) T.n_isinstance (by decide +kernel) (pa_cons (pv 6) (pa_cons (pe_bltn (v := .ty "bool") (by rfl) T.n_bool (by decide +kernel) rfl) pa_nil)))) (pw_or1 (pt_not (pt_chain op_le op_le (pv 7) (pv 6) (pv 8))))))) (pss_one (ps_ret (pv 5))) (pss_nil))
      (pss_one (ps_if (PW.pt (pw_and (pt_cmpR op_eq (pv 5) (pe_str) (nomark _)) (pw_and1 (pt_cmpR op_lt (pv 6) (pe_op op_mul (pe_int) (pv 1)) (nomark _))))) (pss_one (ps_ret (pv 5))) (pss_nil)))))
      (pss_one (ps_ret (pe_non)))), ?_⟩
    refine ⟨_, rfl, a, _, rfl, SqL.of ha, rfl, _, _, rfl, _, _, rfl, _, _, rfl, _, _, rfl, rfl, ?_⟩
    refine ⟨_, rfl, by show 4 ≤ sizeLine; decide, fun a1 h1 => ⟨_, rfl, by show 4 ≤ sizeLine; decide, fun a2 h2 => ⟨_, rfl, by show 4 ≤ sizeLine; decide, fun a3 h3 => ⟨_, rfl, by show 4 ≤ sizeLine; decide, fun a4 h4 => ⟨by show 4 ≤ sizeLine; decide, fun al hal => ?_⟩⟩⟩⟩⟩
    have e1 := Ext.upd (o := .lst [.str "delay", d, .int 1, .int 50]) h1
    have e2 := Ext.upd (o := .lst [.str "turn", t, .int 1, .int 200]) h2
    have e3 := Ext.upd (o := .lst [.str "losses", l, .int 1, .int 3]) h3
    have e4 := Ext.upd (o := .lst [.str "quiet", q, .int 1, .int 500]) h4
    have e5 := Ext.upd (o := .lst [.ref a1, .ref a2, .ref a3, .ref a4]) hal
    have g1 := e5 _ _ (e4 _ _ (e3 _ _ (e2 _ _ (upd_same (H := H) (a := a1) (o := .lst [.str "delay", d, .int 1, .int 50])))))
    have g2 := e5 _ _ (e4 _ _ (e3 _ _ (upd_same (H := upd H a1 (.lst [.str "delay", d, .int 1, .int 50])) (a := a2) (o := .lst [.str "turn", t, .int 1, .int 200]))))
    have g3 := e5 _ _ (e4 _ _ (upd_same (H := upd (upd H a1 (.lst [.str "delay", d, .int 1, .int 50])) a2 (.lst [.str "turn", t, .int 1, .int 200])) (a := a3) (o := .lst [.str "losses", l, .int 1, .int 3])))
    have g4 := e5 _ _ (upd_same (H := upd (upd (upd H a1 (.lst [.str "delay", d, .int 1, .int 50])) a2 (.lst [.str "turn", t, .int 1, .int 200])) a3 (.lst [.str "losses", l, .int 1, .int 3])) (a := a4) (o := .lst [.str "quiet", q, .int 1, .int 500]))
    have e05 := (((e1.trans e2).trans e3).trans e4).trans e5
    have gl : upd (upd (upd (upd (upd H a1 (.lst [.str "delay", d, .int 1, .int 50])) a2 (.lst [.str "turn", t, .int 1, .int 200])) a3 (.lst [.str "losses", l, .int 1, .int 3])) a4 (.lst [.str "quiet", q, .int 1, .int 500])) al (.lst [.ref a1, .ref a2, .ref a3, .ref a4]) al = some (.lst [.ref a1, .ref a2, .ref a3, .ref a4]) := upd_same
    generalize upd (upd (upd (upd (upd H a1 _) a2 _) a3 _) a4 _) al _ = HL at g1 g2 g3 g4 gl e05 ⊢
    refine ⟨al, rfl, ⟨_, SqL.of gl⟩, ?_⟩
    refine for_list (xs := [.ref a1, .ref a2, .ref a3, .ref a4]) (fun i σ' H' => H' = HL ∧ (∃ o5 o6 o7 o8 : Option V, σ' = [some (.ref a), some d, some t, some l, some q, o5, o6, o7, o8]) ∧ ∀ j, j < i → okAt d t l q j) ⟨rfl, ⟨_, _, _, _, rfl⟩, fun j hj => absurd hj (Nat.not_lt_zero _)⟩ (fun i σ' H' _ pv => ?_) (fun i x σ' H' hx pv => ?_) (fun σ' H' pv => ?_)
    · obtain ⟨rfl, _⟩ := pv
      exact SqL.of gl
    · obtain ⟨rfl, ⟨o5, o6, o7, o8, rfl⟩, hok⟩ := pv
      have hi : i < 4 := (List.getElem?_eq_some_iff.mp hx).1
      obtain ⟨b, rfl, hb⟩ : ∃ b, x = .ref b ∧ H' b = some (.lst [.str (rowAt d t l q i).1, (rowAt d t l q i).2.1, .int (rowAt d t l q i).2.2.1, .int (rowAt d t l q i).2.2.2]) := by
        match i, hi, hx with
        | 0, _, hx => cases hx; exact ⟨_, rfl, g1⟩
        | 1, _, hx => cases hx; exact ⟨_, rfl, g2⟩
        | 2, _, hx => cases hx; exact ⟨_, rfl, g3⟩
        | 3, _, hx => cases hx; exact ⟨_, rfl, g4⟩
      have fv : Fl (rowAt d t l q i).2.1 := by
        match i, hi with
        | 0, _ => exact fd
        | 1, _ => exact ft
        | 2, _ => exact fl
        | 3, _ => exact fq
      have bad : betw (rowAt d t l q i).2.1 (rowAt d t l q i).2.2.1 (rowAt d t l q i).2.2.2 = false → ¬ okAt d t l q i := fun h z => by
        match i, hi, h, z with
        | 0, _, h, z => rw [show okAt d t l q 0 = (betw d 1 50 = true) from rfl] at z; rw [show betw (rowAt d t l q 0).2.1 (rowAt d t l q 0).2.2.1 (rowAt d t l q 0).2.2.2 = betw d 1 50 from rfl, z] at h; cases h
        | 1, _, h, z => rw [show betw (rowAt d t l q 1).2.1 (rowAt d t l q 1).2.2.1 (rowAt d t l q 1).2.2.2 = betw t 1 200 from rfl, z.1] at h; cases h
        | 2, _, h, z => rw [show okAt d t l q 2 = (betw l 1 3 = true) from rfl] at z; rw [show betw (rowAt d t l q 2).2.1 (rowAt d t l q 2).2.2.1 (rowAt d t l q 2).2.2.2 = betw l 1 3 from rfl, z] at h; cases h
        | 3, _, h, z => rw [show okAt d t l q 3 = (betw q 1 500 = true) from rfl] at z; rw [show betw (rowAt d t l q 3).2.1 (rowAt d t l q 3).2.2.1 (rowAt d t l q 3).2.2.2 = betw q 1 500 from rfl, z] at h; cases h
      have ret : ¬ okAt d t l q i → Q (.str (rowAt d t l q i).1) H' := fun hb => by
        have := k _ e05
        rw [due_bad fd ft fl fq i hi hok hb] at this
        exact this
      have next : okAt d t l q i → ∀ j, j < i + 1 → okAt d t l q j := fun h j hj => by
        rcases Nat.lt_succ_iff_lt_or_eq.mp hj with hj | rfl
        · exact hok j hj
        · exact h
      refine ⟨b, _, rfl, SqL.of hb, rfl, _, _, rfl, _, _, rfl, _, _, rfl, _, _, rfl, rfl, ?_⟩
      generalize hrow : rowAt d t l q i = row at *
      obtain ⟨nm, v, lo, hi'⟩ := row
      refine ⟨v, rfl, v, .ty "int", .type (tnD (pd v)), .type "int", isIntD (pd v), rfl, .ty _, dp_ty (dp_fl fv), kd_int, _, rfl, ?_⟩
      cases h1 : isIntD (pd v) with
      | false =>
        refine iteT (iteT ⟨_, rfl, ret (bad ?_)⟩)
        rw [← pd_betw fv]
        exact bet_not (by rw [h1]; rfl)
      | true =>
        refine iteF ⟨v, rfl, v, .ty "bool", .type (tnD (pd v)), .type "bool", isBoolD (pd v), rfl, .ty _, dp_ty (dp_fl fv), kd_bool, _, rfl, ?_⟩
        cases h2 : isBoolD (pd v) with
        | true =>
          refine iteT (iteT ⟨_, rfl, ret (bad ?_)⟩)
          rw [← pd_betw fv]
          exact bet_not (by rw [h1, h2]; rfl)
        | false =>
          refine iteF ?_
          obtain ⟨m, hm⟩ := int_yes (show (isIntD (pd v) && !isBoolD (pd v)) = true by rw [h1, h2]; rfl)
          obtain rfl : v = .int m := by
            cases v <;> first | (cases hm; rfl) | cases hm | exact fv.elim
          refine ⟨_, rfl, _, rfl, _, _, rfl, rfl, _, rfl, ?_⟩
          cases h3 : decide (lo ≤ m) with
          | false =>
            refine iteF ⟨_, rfl, iteT ⟨_, rfl, ret (bad ?_)⟩⟩
            show (decide (lo ≤ m) && decide (m ≤ hi')) = false
            rw [h3]
            rfl
          | true =>
            refine iteT ⟨_, rfl, _, _, rfl, rfl, _, rfl, ?_⟩
            cases h4 : decide (m ≤ hi') with
            | false =>
              refine iteT ⟨_, rfl, ret (bad ?_)⟩
              show (decide (lo ≤ m) && decide (m ≤ hi')) = false
              rw [h3, h4]
              rfl
            | true =>
              refine iteF ?_
              have hbt : betw (.int m) lo hi' = true := by
                show (decide (lo ≤ m) && decide (m ≤ hi')) = true
                rw [h3, h4]
                rfl
              refine ⟨_, rfl, rfl, _, rfl, ?_⟩
              match i, hi, hrow, hok, next, ret with
              | 0, _, hrow, hok, next, ret =>
                cases hrow
                rw [show decide (V.str "delay" = V.str "turn") = false by decide +kernel]
                exact iteF ⟨rfl, ⟨_, _, _, _, rfl⟩, next hbt⟩
              | 2, _, hrow, hok, next, ret =>
                cases hrow
                rw [show decide (V.str "losses" = V.str "turn") = false by decide +kernel]
                exact iteF ⟨rfl, ⟨_, _, _, _, rfl⟩, next hbt⟩
              | 3, _, hrow, hok, next, ret =>
                cases hrow
                rw [show decide (V.str "quiet" = V.str "turn") = false by decide +kernel]
                exact iteF ⟨rfl, ⟨_, _, _, _, rfl⟩, next hbt⟩
              | 1, _, hrow, hok, next, ret =>
                cases hrow
                obtain ⟨di, rfl, d1, d2⟩ := bt (hok 0 (by omega))
                rw [show decide (V.str "turn" = V.str "turn") = true by decide +kernel]
                refine iteT ⟨_, rfl, _, rfl, _, _, rfl, rfl, .inl ⟨by decide, by decide⟩, _, _, rfl, rfl, _, rfl, ?_⟩
                by_cases h5 : m < 2 * di
                · rw [decide_eq_true h5]
                  exact iteT ⟨_, rfl, ret fun z => absurd (z.2 di m rfl rfl) (by omega)⟩
                · rw [decide_eq_false h5]
                  exact iteF ⟨rfl, ⟨_, _, _, _, rfl⟩, next ⟨hbt, fun a b ea eb => by cases ea; cases eb; omega⟩⟩
    · obtain ⟨rfl, ⟨o5, o6, o7, o8, rfl⟩, hok⟩ := pv
      have := k _ e05
      rw [due_good fd ft fl fq hok] at this
      exact this
end
end K29

set_option Elab.async false
set_option maxRecDepth 100000
set_option maxHeartbeats 4000000
namespace K29
open PySem PySem.Spec PyProof.Rows L2
theorem Tb3.m1 (t : Tb3) : (t.p1, lamQ "law") ∈ t.l := List.mem_cons_self
theorem Tb3.m2 (t : Tb3) : (t.p2, lamQ "_law_lulls_right") ∈ t.l := List.mem_cons_of_mem _ List.mem_cons_self
theorem Tb3.m3 (t : Tb3) : (t.p3, lamQ "_law_roads_right") ∈ t.l := List.mem_cons_of_mem _ (List.mem_cons_of_mem _ List.mem_cons_self)
theorem Tb3.mem (t : Tb3) {p : Addr × Str} (h : p ∈ t.l) : p = (t.p1, lamQ "law") ∨ p = (t.p2, lamQ "_law_lulls_right") ∨ p = (t.p3, lamQ "_law_roads_right") := by
  simpa [Tb3.l] using h
theorem Tb3.u1 (t : Tb3) : ∀ p ∈ t.l, p.1 = t.p1 → p.2 = lamQ "law" := fun p hp e => by
  rcases t.mem hp with rfl | rfl | rfl
  · rfl
  · exact absurd e.symm t.n12
  · exact absurd e.symm t.n13
theorem Tb3.u2 (t : Tb3) : ∀ p ∈ t.l, p.1 = t.p2 → p.2 = lamQ "_law_lulls_right" := fun p hp e => by
  rcases t.mem hp with rfl | rfl | rfl
  · exact absurd e t.n12
  · rfl
  · exact absurd e.symm t.n23
theorem Tb3.u3 (t : Tb3) : ∀ p ∈ t.l, p.1 = t.p3 → p.2 = lamQ "_law_roads_right" := fun p hp e => by
  rcases t.mem hp with rfl | rfl | rfl
  · exact absurd e t.n13
  · exact absurd e t.n23
  · rfl
/-- all but st and the tables stays -/
def ExtT (st : Addr) (H H' : Hp) : Prop := ∀ x o, x ≠ st → (∀ ps, o ≠ .tbl ps) → H x = some o → H' x = some o
theorem ExtT.rfl' {st : Addr} {H : Hp} : ExtT st H H := fun _ _ _ _ h => h
theorem ExtT.trans {st : Addr} {H H1 H2 : Hp} (a : ExtT st H H1) (b : ExtT st H1 H2) : ExtT st H H2 := fun x o h n e => b x o h n (a x o h n e)
theorem ExtM.t {st : Addr} {H H' : Hp} (e : ExtM st H H') : ExtT st H H' := fun x o h _ k => e x o h k
theorem extNt {st : Addr} {H H' : Hp} (e : LamX.ExtN H H') : ExtT st H H' := fun x o _ n k => e x o k n
theorem extT {st : Addr} {H H' : Hp} (e : Ext H H') : ExtT st H H' := extNt (extN e)
theorem due_word {d t l q : PyData} {s : Str} (h : lullDue d t l q = some s) : PySem.PyData.canLay0 (.str s) = true := by
  have key : s = "delay" ∨ s = "turn" ∨ s = "losses" ∨ s = "quiet" := by
    cases hd : betD d 1 50 with
    | false =>
      rw [lullDue_no hd] at h
      exact .inl (Option.some.inj h).symm
    | true =>
      obtain ⟨di, rfl, _⟩ := bet_yes hd
      rw [lullDue_yes hd] at h
      unfold lullDue2 quietDue at h
      cases h1 : betD t (2 * di) 200 with
      | false =>
        rw [h1, if_pos rfl] at h
        exact .inr (.inl (Option.some.inj h).symm)
      | true =>
        rw [h1, if_neg (by decide)] at h
        cases h2 : betD l 1 3 with
        | false =>
          rw [h2, if_pos rfl] at h
          exact .inr (.inr (.inl (Option.some.inj h).symm))
        | true =>
          rw [h2, if_neg (by decide)] at h
          cases h3 : betD q 1 500 with
          | false =>
            rw [h3, if_pos rfl] at h
            exact .inr (.inr (.inr (Option.some.inj h).symm))
          | true =>
            rw [h3, if_neg (by decide)] at h
            cases h
  rcases key with rfl | rfl | rfl | rfl <;> decide +kernel
theorem fl_part {v : V} (hv : Fl v) : ∀ x ∈ [V.str "part", v, .bl true], Fl x := fun x hx => by
  simp only [List.mem_cons, List.not_mem_nil, or_false] at hx
  rcases hx with rfl | rfl | rfl
  · show PySem.PyData.canLay0 (.str "part") = true
    decide +kernel
  · exact hv
  · trivial
theorem pd_int {v : V} {n : Int} (h : pd v = .int n) (f : Fl v) : v = .int n := by
  cases v <;> first | (cases h; rfl) | cases h | exact f.elim
section
variable {P : Program} {w : World} {K : PySem.W.Frag} {mg : Str → Option Value} {base : Heap} {A : Ad}
theorem nfList {C : Addr} : PySem.W.notFirst K C (.type "list") = true := by
  show (Value.type "list" == Value.ref C || PySem.W.subIn K (.type "list") (.ref C) == some false) = true
  rw [sub_ty_ref (by decide +kernel)]
  exact Bool.or_eq_true_iff.mpr (.inr (by decide))
theorem mk_lull {d t l q : Int} (ok : lullDue (.int d) (.int t) (.int l) (.int q) = none) {H : Hp} {x dx : Addr} (hx : H x = none) (hdx : H dx = none) (hne : dx ≠ x) {vs : List V} (hvs : vs = [.ref x, .int d, .int t, .int l, .int q]) {Q : VK} {E : XK} (k : ∀ H', Ext H H' → LullAt A H' x d t l q → Q .non H') :
    spLullInit K A vs (upd (upd H dx (.own x)) x (.ins A.Lull dx [])) Q E := by
  have e3 := (Ext.upd (o := .own x) hdx).upd' (o := .ins A.Lull dx []) (by rw [upd_ne hne.symm]; exact hx)
  refine ⟨x, dx, _, _, _, _, _, _, _, _, hvs, upd_same, .int d, .int t, .int l, .int q, fun s hs => (by rw [ok] at hs; cases hs), fun di ti li qi e1 e2 e3' e4 _ H' hl hB => ?_⟩
  cases e1
  cases e2
  cases e3'
  cases e4
  exact k H' (fun a u h => hB a u (ne_of_none h hx) (e3 a u h)) hl
/-- what the law draws a road by -/
structure PlD where
  (o l d : Int) (bs : List Bx) (la tu lo : Int) (rs : List Int) (qu pe : Int)
structure PlOk (r : PlD) : Prop where
  o1 : 0 ≤ r.o
  o2 : r.o ≤ 1000
  l1 : 1 ≤ r.l
  ld : r.l ≤ r.d
  d2 : r.d ≤ 45
  bx : ∀ q ∈ r.bs, bxOk q r.l r.d
  b3 : r.bs.length ≤ 3
  a1 : r.o + 2 * r.l ≤ r.la
  a2 : r.la ≤ r.o + 2 * r.d
  t1 : 2 * r.d ≤ r.tu
  t2 : r.tu ≤ 190
  s1 : 1 ≤ r.lo
  s2 : r.lo ≤ 3
  r1 : 1 ≤ r.rs.length
  r3 : r.rs.length ≤ 3
  rr : ∀ x ∈ r.rs, 1 ≤ x ∧ x ≤ 100
  q1 : 1 ≤ r.qu
  q2 : r.qu ≤ 400
  p1 : 1 ≤ r.pe
  p2 : r.pe ≤ 190
def PlainAt (K : PySem.W.Frag) (H : Hp) (p : Addr) (r : PlD) : Prop := ∃ bx ro xs, H p = some (.lst [.int r.o, .int r.l, .int r.d, .ref bx, .int r.la, .int r.tu, .int r.lo, .ref ro, .int r.qu, .int r.pe]) ∧ H bx = some (.lst xs) ∧ DpAll K H xs (r.bs.map bxD) ∧ H ro = some (.lst (r.rs.map V.int))
def spLullsRight (ts : Tb3) : Sp := fun vs H Q _ => ∃ (st pl : Addr) (o l d la tu lo qu pe : Int) (bx ro : Addr), vs = [.ref st, .ref pl] ∧ PoolD H st ∧ H pl = some (.lst [.int o, .int l, .int d, .ref bx, .int la, .int tu, .int lo, .ref ro, .int qu, .int pe]) ∧ LamX.Tabs ts.l H ∧
  ∀ H', PoolD H' st → LamX.Tabs ts.l H' → ExtT st H H' → Q (.bl true) H'
theorem ok_lullsRight {f c : Addr} {oc kV doc pm ct : Value} {od an : Option Addr} {osl : Array (Option Value)} {ts : Tb3} (lk : K.lookup f = some ⟨oc, od, .func (PySem.W.fnOf "_law_lulls_right" "_law_lulls_right" (defArgs s__law_lulls_right) (defBody s__law_lulls_right) (defScope s__law_lulls_right) .none kV doc pm an (.ref c) ct), osl⟩) (hcd : PySem.W.codeIn K (.ref c) "_law_lulls_right" = true)
    (TB : LamX.TabB base mg c ts.p2) (T : Txt K mg A) (D_told : DefAt K mg "_law_told" s__law_told pm__law_told) (O__law_spoilt : Own P w K mg base CX0 "_law_spoilt" 3 pm__law_spoilt (spSpoilt K)) (O__law_lull_wrong : Own P w K mg base CX0 "_law_lull_wrong" 1 pm__law_lull_wrong spLullWrong)
    (O_Lull : OwnC P w K mg base (L2.CX P w) "Lull" A.Lull 5 pm_Lull_init (spLullInit K A)) (O_Lull_eq : OwnM P w K mg base CX0 A.Lull "__eq__" 1 pm_Lull_eq (spLullEq K A)) :
    FnOk P w K mg base CX0 9 f (PySem.W.fnOf "_law_lulls_right" "_law_lulls_right" (defArgs s__law_lulls_right) (defBody s__law_lulls_right) (defScope s__law_lulls_right) .none kV doc pm an (.ref c) ct) pm__law_lulls_right (spLullsRight ts) := by
  refine fn_of lk hcd sc__law_lulls_right (fun vs H Q E h => ?_) (fun A' outer sh H vs Q E hr h => ?_)
  · obtain ⟨_, _, _, _, _, _, _, _, _, _, _, _, rfl, _⟩ := h
    rfl
  · obtain ⟨st, pl, o, l, d, la, tu, lo, qu, pe, bx, ro, rfl, st0, hpl, tb0, k⟩ := h
    suffices h : ∃ t, PSs (cxOf CX0 P w K mg base nm__law_lulls_right "_law_lulls_right" (defScope s__law_lulls_right) f (.ref c) A' outer sh H E).nox (defBody s__law_lulls_right) t ∧ t { nx := fun _ H' => Q .non H', rt := Q } (start nm__law_lulls_right [.ref st, .ref pl]) H by
      obtain ⟨t, h1, h2⟩ := h
      exact ⟨t, h1.nox, h2⟩
    refine ⟨_, pss_cons (ps_set (i := 2) sc__law_lulls_right.nd rfl (Or.inr rfl) (pe_own O__law_spoilt (hr.mono (by decide)) pass0 (pa_cons (pv 0) (pa_cons (pe_lst (pa_cons (pe_ix ix_list (pv 1) (pe_int) (fun _ _ => rfl)) (pa_cons (pe_ix ix_list (pv 1) (pe_int) (fun _ _ => rfl)) (pa_cons (pe_ix ix_list (pv 1) (pe_int) (fun _ _ => rfl)) (pa_cons (pe_ix ix_list (pv 1) (pe_int) (fun _ _ => rfl)) pa_nil))))) pa_nil))))
      (pss_cons (ps_par (i := 3) (j := 4) (by rfl) sc__law_lulls_right.nd rfl rfl (by decide) rfl rfl (pa_cons (pe_own O__law_lull_wrong (hr.mono (by decide)) pass0 (pa_cons (pv 2) pa_nil)) (pa_cons (pe_told (k := 6) (defScope s__law_lulls_right) rfl "_law_lulls_right" ts.l ts.m2 ts.u2 D_told T TB rfl rfl (hr.mono (by decide)) (fun _ _ _ _ _ _ _ hr2 => pe_newS O_Lull (hr2.mono (by decide)) (takes_of rfl rfl rfl rfl) (pa_cons (pe_ix (ix_listK (K := K) rfl) (pv 2) (pe_int) (fun _ _ => rfl)) (pa_cons (pe_ix (ix_listK (K := K) rfl) (pv 2) (pe_int) (fun _ _ => rfl)) (pa_cons (pe_ix (ix_listK (K := K) rfl) (pv 2) (pe_int) (fun _ _ => rfl)) (pa_cons (pe_ix (ix_listK (K := K) rfl) (pv 2) (pe_int) (fun _ _ => rfl)) pa_nil)))))) pa_nil)) (by rfl))
      (pss_cons (ps_if (pt_cmpR op_notN (pv 3) (pe_non) (nomark _)) (pss_one (ps_ret (pe_cmpR (op_eqD hr.units) (pv 4) (pe_lst (pa_cons (pe_str) (pa_cons (pv 3) (pa_cons (pe_bl) pa_nil)))) (nomark _)))) (pss_nil))
      (pss_cons (ps_if (PW.pt (pw_or (pt_val (pe_callB call_isi (by rfl) T.n_isinstance (by decide +kernel) (pa_cons (pv 4) (pa_cons (pe_bltn (v := .ty "list") (by rfl) T.n_list (by decide +kernel) rfl) pa_nil)))) (pw_or1 (pt_cmpR (op_neD hr.units) (pe_lst (pa_cons (pe_fld (pv 4) rfl) (pa_cons (pe_fld (pv 4) rfl) (pa_cons (pe_fld (pv 4) rfl) (pa_cons (pe_fld (pv 4) rfl) pa_nil))))) (pv 2) (nomark _))))) (pss_one (ps_ret (pe_bl))) (pss_nil))
      (pss_cons (ps_set (i := 5) sc__law_lulls_right.nd rfl (Or.inl rfl) (pe_lst (pa_cons (pe_lst (pa_cons (pe_int) (pa_cons (pe_int) (pa_cons (pe_ix ix_list (pv 2) (pe_int) (fun _ _ => rfl)) (pa_cons (pe_ix ix_list (pv 2) (pe_int) (fun _ _ => rfl)) pa_nil))))) (pa_cons (pe_lst (pa_cons (pe_ix ix_list (pv 2) (pe_int) (fun _ _ => rfl)) (pa_cons (pe_op op_add (pe_op op_sub (pe_ix ix_list (pv 2) (pe_int) (fun _ _ => rfl)) (pe_int)) (pe_op op_mul (pe_int) (pe_callTy call_int1 (by rfl) T.n_int (by decide +kernel) (pa_cons (pe_cmpR op_lt (pe_ix ix_list (pv 2) (pe_int) (fun _ _ => rfl)) (pe_int) (nomark _)) pa_nil)))) (pa_cons (pe_ix ix_list (pv 2) (pe_int) (fun _ _ => rfl)) (pa_cons (pe_ix ix_list (pv 2) (pe_int) (fun _ _ => rfl)) pa_nil))))) pa_nil))))
      (pss_cons (ps_set (i := 5) sc__law_lulls_right.nd rfl (Or.inl rfl) (pe_op op_cat (pv 5) (pe_lst (pa_cons (pe_lst (pa_cons (pe_ix ix_list (pv 2) (pe_int) (fun _ _ => rfl)) (pa_cons (pe_ix ix_list (pv 2) (pe_int) (fun _ _ => rfl)) (pa_cons (pe_op op_add (pe_op op_mod (pe_callTy call_int1 (by rfl) T.n_int (by decide +kernel) (pa_cons (pe_ix ix_list (pv 2) (pe_int) (fun _ _ => rfl)) pa_nil)) (pe_int)) (pe_int)) (pa_cons (pe_ix ix_list (pv 2) (pe_int) (fun _ _ => rfl)) pa_nil))))) pa_nil))))
      (pss_cons (ps_for PassesOwn.never rfl (pi_list (pv 5)) (pg_name (i := 6) sc__law_lulls_right.nd rfl (Or.inl rfl)) (pss_one (ps_if (PW.pt (pw_and (pt_cmpR (op_neD hr.units) (pv 6) (pv 2) (nomark _)) (pw_and (pt_cmpR op_ge (pe_ix ix_list (pv 6) (pe_int) (fun _ _ => rfl)) (pe_op op_mul (pe_int) (pe_ix ix_list (pv 6) (pe_int) (fun _ _ => rfl))) (nomark _)) (pw_and1 (pt_cmpR (eqO O_Lull_eq T.Lull.neM (hr.mono (by decide)) pass0) (pv 4) (pe_new O_Lull (hr.mono (by decide)) passL (pa_cons (pe_ix ix_list (pv 6) (pe_int) (fun _ _ => rfl)) (pa_cons (pe_ix ix_list (pv 6) (pe_int) (fun _ _ => rfl)) (pa_cons (pe_ix ix_list (pv 6) (pe_int) (fun _ _ => rfl)) (pa_cons (pe_ix ix_list (pv 6) (pe_int) (fun _ _ => rfl)) pa_nil))))) (nomark _)))))) (pss_one (ps_ret (pe_bl))) (pss_nil))))
      (pss_cons (ps_set (i := 7) sc__law_lulls_right.nd rfl (Or.inl rfl) (pe_new O_Lull (hr.mono (by decide)) passL (pa_cons (pe_ix ix_list (pv 2) (pe_int) (fun _ _ => rfl)) (pa_cons (pe_ix ix_list (pv 2) (pe_int) (fun _ _ => rfl)) (pa_cons (pe_ix ix_list (pv 2) (pe_int) (fun _ _ => rfl)) (pa_cons (pe_op op_add (pe_op op_mod (pe_callTy call_int1 (by rfl) T.n_int (by decide +kernel) (pa_cons (pe_ix ix_list (pv 2) (pe_int) (fun _ _ => rfl)) pa_nil)) (pe_int)) (pe_int)) pa_nil))))))
      (pss_one (ps_ret (pe_and (pe_cmpR (eqO O_Lull_eq T.Lull.neM (hr.mono (by decide)) pass0) (pv 4) (pe_new O_Lull (hr.mono (by decide)) passL (pa_cons (pe_ix ix_list (pv 2) (pe_int) (fun _ _ => rfl)) (pa_cons (pe_ix ix_list (pv 2) (pe_int) (fun _ _ => rfl)) (pa_cons (pe_ix ix_list (pv 2) (pe_int) (fun _ _ => rfl)) (pa_cons (pe_ix ix_list (pv 2) (pe_int) (fun _ _ => rfl)) pa_nil))))) (nomark _)) (pe_and (pe_not (pe_cmpR (eqO O_Lull_eq T.Lull.neM (hr.mono (by decide)) pass0) (pv 4) (pv 7) (nomark _))) (pe_one (pe_not (pe_cmpR (eqO O_Lull_eq T.Lull.neM (hr.mono (by decide)) pass0) (pv 4) (pv 2) (nomark _))))))))))))))), ?_⟩
    have hS := SqL.of (K := K) hpl
    refine ⟨_, rfl, _, rfl, pl, _, 2, .int d, rfl, rfl, hS, rfl, _, rfl, pl, _, 5, .int tu, rfl, rfl, hS, rfl, _, rfl, pl, _, 6, .int lo, rfl, rfl, hS, rfl, _, rfl, pl, _, 8, .int qu, rfl, rfl, hS, rfl, by show 4 ≤ sizeLine; decide, fun il hil => ?_⟩
    have e1 := Ext.upd (o := .lst [.int d, .int tu, .int lo, .int qu]) hil
    refine ⟨st, il, _, rfl, st0.ext e1, SqL.of upd_same, by simp, by simp, fun vl ys H2 hvl hyl hys nvl _ st2 x2 => ?_⟩
    have flx : ∀ x ∈ [V.int d, .int tu, .int lo, .int qu], Fl x := fun x hx => by
      simp only [List.mem_cons, List.not_mem_nil, or_false] at hx
      rcases hx with rfl | rfl | rfl | rfl <;> trivial
    have hfl : ∀ y ∈ ys, Fl y := fun y hy => by
      obtain ⟨i, hi⟩ := List.mem_iff_getElem?.mp hy
      rcases hys i y hi with h | h
      · exact flx y (List.mem_of_getElem? h)
      · exact h
    obtain ⟨y0, y1, y2, y3, rfl⟩ : ∃ y0 y1 y2 y3, ys = [y0, y1, y2, y3] := by
      match ys, hyl with
      | [y0, y1, y2, y3], _ => exact ⟨_, _, _, _, rfl⟩
    have f0 := hfl y0 (by simp)
    have f1 := hfl y1 (by simp)
    have f2 := hfl y2 (by simp)
    have f3 := hfl y3 (by simp)
    have tb2 := tabs_m (tb0.ext e1) (st0.ext e1) x2
    have t2 : ExtT st H H2 := (extT e1).trans (ExtM.t x2)
    refine ⟨_, rfl, vl, y0, y1, y2, y3, rfl, hvl, f0, f1, f2, f3, fun H3 e3 => ?_⟩
    have st3 := st2.ext e3
    have tb3 := tb2.ext e3
    have t3 := t2.trans (extT e3)
    have hvl3 := e3 _ _ hvl
    refine ⟨tb3, fun H4 e4 tb4 => ?_⟩
    have hv4 := SqL.of (K := K) (e4 _ _ hvl3 nT_lst)
    refine ⟨_, rfl, vl, _, 0, y0, rfl, rfl, hv4, rfl, _, rfl, vl, _, 1, y1, rfl, rfl, hv4, rfl, _, rfl, vl, _, 2, y2, rfl, rfl, hv4, rfl, _, rfl, vl, _, 3, y3, rfl, rfl, hv4, rfl, fun x dx hx hdx hne => ?_⟩
    have e5 := (Ext.upd (o := .own x) hdx).upd' (o := .ins A.Lull dx []) (by rw [upd_ne hne.symm]; exact hx)
    refine ⟨x, dx, y0, y1, y2, y3, pd y0, pd y1, pd y2, pd y3, rfl, upd_same, dp_fl f0, dp_fl f1, dp_fl f2, dp_fl f3, fun s hs H6 e6 e he => ?_, fun di ti li qi q0 q1 q2 q3 hdue H6 hl hB => ⟨rfl, ?_⟩⟩
    · refine ⟨rfl, e, _, rfl, upd_same, fun r H7 e7 hr7 => ?_⟩
      have e47 : Ext H4 H7 := ((e5.trans e6).trans (Ext.upd he)).trans e7
      refine ⟨_, _, rfl, ?_⟩
      rw [hs]
      refine ⟨_, rfl, rfl, _, rfl, ?_⟩
      rw [show (!decide (sV (some s) = V.non)) = true from by rw [decide_eq_false (fun h => by cases h)]; rfl]
      refine iteT ⟨_, rfl, _, rfl, by show 3 ≤ sizeLine; decide, fun l8 hl8 => ?_⟩
      have fw := fl_part (v := .str s) (due_word hs)
      refine eqD_lst (SqL.of (Ext.upd hl8 _ _ hr7)) (SqL.of upd_same) fw fw ?_
      show Q (.bl (PyData.eqvAll ([V.str "part", .str s, .bl true].map pd) ([V.str "part", .str s, .bl true].map pd))) _
      rw [eqv_same fw]
      have e48 := e47.trans (Ext.upd (o := .lst [.str "part", .str s, .bl true]) hl8)
      exact k _ ((st3.n e4).ext e48) (tb4.ext e48) ((t3.trans (extNt e4)).trans (extT e48))
    · obtain rfl := pd_int q0 f0
      obtain rfl := pd_int q1 f1
      obtain rfl := pd_int q2 f2
      obtain rfl := pd_int q3 f3
      have e46 : Ext H4 H6 := fun a u h => hB a u (ne_of_none h hx) (e5 a u h)
      have b0 : betD (.int di) 1 50 = true := by
        cases z : betD (.int di) 1 50 with
        | true => rfl
        | false => rw [show pd (.int di) = .int di from rfl, lullDue_no z] at hdue; cases hdue
      have hdue' : (lullDue2 di (.int ti) (.int li)).or (quietDue (.int qi)) = none := by
        rw [← lullDue_yes b0]
        exact hdue
      obtain ⟨n1, n2⟩ : lullDue2 di (.int ti) (.int li) = none ∧ quietDue (.int qi) = none := by
        cases z : lullDue2 di (.int ti) (.int li) with
        | some s => rw [z] at hdue'; cases hdue'
        | none => rw [z] at hdue'; exact ⟨rfl, hdue'⟩
      obtain ⟨_, _, z1, z2, t1, t2', l1, l2⟩ := lullDue2_none n1
      cases z1
      cases z2
      obtain ⟨_, z3, qq1, qq2⟩ := quietDue_none n2
      cases z3
      obtain ⟨_, z0, d1, d2⟩ := bet_yes b0
      cases z0
      have st6 := (st3.n e4).ext e46
      have tb6 := tb4.ext e46
      have t6 := (t3.trans (extNt e4)).trans (extT e46)
      have hv6 := e46 _ _ (e4 _ _ hvl3 nT_lst)
      refine ⟨_, _, rfl, ?_⟩
      rw [hdue]
      refine ⟨_, rfl, rfl, _, rfl, ?_⟩
      rw [show (!decide (sV none = V.non)) = false from by rw [show decide (sV none = V.non) = true from decide_eq_true rfl]; rfl]
      refine iteF ?_
      obtain ⟨dl6, hi6⟩ := id hl
      refine ⟨_, rfl, _, .ty "list", .ref A.Lull, .type "list", false, rfl, .ty _, T.Lull.tyOf hi6, T.Lull.kLst, _, rfl, iteF ?_⟩
      refine ⟨_, rfl, x, A.Lull, dl6, _, _, rfl, hi6, T.Lull.cl, T.c_delay, rfl, _, rfl, x, A.Lull, dl6, _, _, rfl, hi6, T.Lull.cl, T.c_turn, rfl, _, rfl, x, A.Lull, dl6, _, _, rfl, hi6, T.Lull.cl, T.c_losses, rfl, _, rfl, x, A.Lull, dl6, _, _, rfl, hi6, T.Lull.cl, T.c_quiet, rfl, by show 4 ≤ sizeLine; decide, fun l9 hl9 => ?_⟩
      have e7 := Ext.upd (o := .lst [.int di, .int ti, .int li, .int qi]) hl9
      refine ⟨_, rfl, neD_lst (vs := [di, ti, li, qi].map V.int) (us := [di, ti, li, qi].map V.int) (SqL.of upd_same) (SqL.of (e7 _ _ hv6)) fl_ints fl_ints ⟨_, rfl, ?_⟩⟩
      rw [eqv_ints, decide_eq_true rfl]
      refine iteF ?_
      have st7 := st6.ext e7
      have tb7 := tb6.ext e7
      have t7 := t6.trans (extT e7)
      have hl7 := hl.ext e7
      have hv7 : upd H6 l9 (.lst [.int di, .int ti, .int li, .int qi]) vl = some (.lst [.int di, .int ti, .int li, .int qi]) := e7 _ _ hv6
      have nx : x ≠ st := fun z => by
        obtain ⟨a, b, hs, _⟩ := st6
        rw [z, hs] at hi6
        cases hi6
      generalize upd H6 l9 _ = H7 at st7 tb7 t7 hl7 hv7 ⊢
      have hV := SqL.of (K := K) hv7
      -- the changed ones
      refine ⟨_, rfl, vl, _, 2, .int li, rfl, rfl, hV, rfl, _, rfl, vl, _, 3, .int qi, rfl, rfl, hV, rfl, by show 4 ≤ sizeLine; decide, fun c1 hc1 => ?_⟩
      have e8 := Ext.upd (o := .lst [.int 1, .int 200, .int li, .int qi]) hc1
      have hV8 := SqL.of (K := K) (e8 _ _ hv7)
      refine ⟨_, rfl, vl, _, 0, .int di, rfl, rfl, hV8, rfl, _, rfl, vl, _, 1, .int ti, rfl, rfl, hV8, rfl, _, _, rfl, rfl, _, rfl, vl, _, 1, .int ti, rfl, rfl, hV8, rfl, _, _, rfl, rfl, .inr ⟨_, rfl, _, _, rfl, rfl, .inl ⟨by decide, by decide⟩, _, _, rfl, rfl, ?_⟩⟩
      have hb : ti - 1 + 2 * (if decide (ti < 200) = true then (1 : Int) else 0) = (if ti < 200 then ti + 1 else ti - 1) := by
        by_cases h : ti < 200
        · rw [decide_eq_true h, if_pos rfl, if_pos h]
          omega
        · rw [decide_eq_false h, if_neg (by decide), if_neg h]
          omega
      rw [show ((fun i j => V.int (i + j)) (ti - 1) (2 * if decide (ti < 200) = true then (1 : Int) else 0)) = V.int (if ti < 200 then ti + 1 else ti - 1) from congrArg V.int hb]
      have hb1 : (if ti < 200 then ti + 1 else ti - 1) ≤ 200 ∧ (if ti < 200 then ti + 1 else ti - 1) ≠ ti := by
        split <;> omega
      generalize (if ti < 200 then ti + 1 else ti - 1) = tj at hb1 ⊢
      refine ⟨_, rfl, vl, _, 2, .int li, rfl, rfl, hV8, rfl, _, rfl, vl, _, 3, .int qi, rfl, rfl, hV8, rfl, by show 4 ≤ sizeLine; decide, fun c2 hc2 => ⟨by show 2 ≤ sizeLine; decide, fun cL hcL => ?_⟩⟩
      have e9 := Ext.upd (o := .lst [.int di, .int tj, .int li, .int qi]) hc2
      have e10 := Ext.upd (o := .lst [.ref c1, .ref c2]) hcL
      have hV10 := SqL.of (K := K) (e10 _ _ (e9 _ _ (e8 _ _ hv7)))
      refine ⟨_, rfl, _, rfl, vl, _, 0, .int di, rfl, rfl, hV10, rfl, _, rfl, vl, _, 1, .int ti, rfl, rfl, hV10, rfl, _, rfl, vl, _, 2, .int li, rfl, rfl, hV10, rfl, .inl ⟨_, rfl, _, _, rfl, rfl, (show (0 : Int) < 3 by decide), _, _, rfl, rfl, ?_⟩⟩
      rw [show ((fun i j => V.int (i + j)) (li % 3) 1) = V.int (li % 3 + 1) from rfl]
      have hm3 : 0 ≤ li % 3 ∧ li % 3 < 3 := ⟨Int.emod_nonneg _ (by decide), Int.emod_lt_of_pos _ (by decide)⟩
      refine ⟨_, rfl, vl, _, 3, .int qi, rfl, rfl, hV10, rfl, by show 4 ≤ sizeLine; decide, fun c3 hc3 => ⟨by show 1 ≤ sizeLine; decide, fun c4 hc4 => ?_⟩⟩
      have e11 := Ext.upd (o := .lst [.int di, .int ti, .int (li % 3 + 1), .int qi]) hc3
      have e12 := Ext.upd (o := .lst [.ref c3]) hc4
      refine ⟨cL, c4, _, _, rfl, rfl, e12 _ _ (e11 _ _ upd_same), upd_same, by show 3 ≤ sizeLine; decide, fun cc hcc => ?_⟩
      rw [show ([V.ref c1, V.ref c2] ++ [V.ref c3]) = [V.ref c1, V.ref c2, V.ref c3] from rfl]
      have e13 := Ext.upd (o := .lst [.ref c1, .ref c2, .ref c3]) hcc
      have e813 := ((((e8.trans e9).trans e10).trans e11).trans e12).trans e13
      have g1 := e13 _ _ (e12 _ _ (e11 _ _ (e10 _ _ (e9 _ _ (upd_same (H := H7) (a := c1) (o := .lst [.int 1, .int 200, .int li, .int qi]))))))
      have g2 := e13 _ _ (e12 _ _ (e11 _ _ (e10 _ _ (upd_same (H := upd H7 c1 (.lst [.int 1, .int 200, .int li, .int qi])) (a := c2) (o := .lst [.int di, .int tj, .int li, .int qi])))))
      have g3 := e13 _ _ (e12 _ _ (upd_same (H := upd (upd (upd H7 c1 (.lst [.int 1, .int 200, .int li, .int qi])) c2 (.lst [.int di, .int tj, .int li, .int qi])) cL (.lst [.ref c1, .ref c2])) (a := c3) (o := .lst [.int di, .int ti, .int (li % 3 + 1), .int qi])))
      have stE := st7.ext e813
      have tbE := tb7.ext e813
      have tE := t7.trans (extT e813)
      have hlE := hl7.ext e813
      have hvE := e813 _ _ hv7
      have gcc : upd (upd (upd (upd (upd (upd H7 c1 (.lst [.int 1, .int 200, .int li, .int qi])) c2 (.lst [.int di, .int tj, .int li, .int qi])) cL (.lst [.ref c1, .ref c2])) c3 (.lst [.int di, .int ti, .int (li % 3 + 1), .int qi])) c4 (.lst [.ref c3])) cc (.lst [.ref c1, .ref c2, .ref c3]) cc = some (.lst [.ref c1, .ref c2, .ref c3]) := upd_same
      clear hV8 hV10 hV e8 e9 e10 e11 e12 e13 e813
      generalize upd (upd (upd (upd (upd (upd H7 c1 _) c2 _) cL _) c3 _) c4 _) cc _ = HE at g1 g2 g3 stE tbE tE hlE hvE gcc ⊢
      refine ⟨_, rfl, cc, rfl, ⟨_, SqL.of gcc⟩, ?_⟩
      refine for_list (xs := [.ref c1, .ref c2, .ref c3]) (fun i σ' H' => (∃ o6 : Option V, σ' = [some (.ref st), some (.ref pl), some (.ref vl), some (sV none), some (.ref x), some (.ref cc), o6, Option.none]) ∧ Ext HE H') ⟨⟨_, rfl⟩, Ext.rfl'⟩ (fun i σ' H' _ pv => SqL.of (pv.2 _ _ gcc)) (fun i y σ' H' hy pv => ?_) (fun σ' H' pv => ?_)
      · obtain ⟨⟨o6, rfl⟩, e⟩ := pv
        obtain ⟨b, r0, r1, r2, rfl, hb0, a1, a2, a3, a4, a5⟩ : ∃ (b : Addr) (r0 r1 r2 : Int), y = .ref b ∧ HE b = some (.lst [.int r0, .int r1, .int r2, .int qi]) ∧ 1 ≤ r0 ∧ r0 ≤ 50 ∧ r1 ≤ 200 ∧ 1 ≤ r2 ∧ r2 ≤ 3 := by
          have hi : i < 3 := (List.getElem?_eq_some_iff.mp hy).1
          match i, hi, hy with
          | 0, _, hy => cases hy; exact ⟨_, _, _, _, rfl, g1, by decide, by decide, by decide, l1, l2⟩
          | 1, _, hy => cases hy; exact ⟨_, _, _, _, rfl, g2, d1, d2, hb1.1, l1, l2⟩
          | 2, _, hy => cases hy; exact ⟨_, _, _, _, rfl, g3, d1, d2, t2', by omega, by omega⟩
        have hbH := SqL.of (K := K) (e _ _ hb0)
        refine ⟨_, rfl, _, rfl, neD_lst (vs := [r0, r1, r2, qi].map V.int) (us := [di, ti, li, qi].map V.int) hbH (SqL.of (e _ _ hvE)) fl_ints fl_ints ⟨_, rfl, ?_⟩⟩
        rw [eqv_ints]
        by_cases heq : [r0, r1, r2, qi] = [di, ti, li, qi]
        · rw [decide_eq_true heq]
          exact iteF (iteF ⟨⟨_, rfl⟩, e⟩)
        · rw [decide_eq_false heq]
          refine iteT ⟨_, rfl, b, _, 1, .int r1, rfl, rfl, hbH, rfl, _, rfl, b, _, 0, .int r0, rfl, rfl, hbH, rfl, _, _, rfl, rfl, .inl ⟨by decide, by decide⟩, _, _, rfl, rfl, _, rfl, ?_⟩
          by_cases hge : r1 ≥ 2 * r0
          · rw [decide_eq_true hge]
            refine iteT ⟨_, rfl, _, rfl, b, _, 0, .int r0, rfl, rfl, hbH, rfl, _, rfl, b, _, 1, .int r1, rfl, rfl, hbH, rfl, _, rfl, b, _, 2, .int r2, rfl, rfl, hbH, rfl, _, rfl, b, _, 3, .int qi, rfl, rfl, hbH, rfl, fun x2 dx2 hx2 hdx2 hne2 => mk_lull (lullDue_ok a1 a2 (by omega) a3 a4 a5 qq1 qq2) hx2 hdx2 hne2 rfl fun H9 e9 hl9 => ⟨rfl, ?_⟩⟩
            have hlx := (hlE.ext e).ext e9
            obtain ⟨dm, him⟩ := id hlx
            obtain ⟨dm2, him2⟩ := id hl9
            refine ⟨x, dm, _, .ref A.Lull, rfl, him, T.Lull.tyOf him2, T.Lull.nfMe, x, di, ti, li, qi, _, rfl, hlx, .inl ⟨x2, r0, r1, r2, qi, rfl, hl9, _, rfl, _, rfl, ?_⟩⟩
            rw [decide_eq_false (fun h => heq (by rw [h.1, h.2.1, h.2.2.1]))]
            exact iteF ⟨⟨_, rfl⟩, e.trans e9⟩
          · rw [decide_eq_false hge]
            exact iteF (iteF ⟨⟨_, rfl⟩, e⟩)
      · obtain ⟨⟨o6, rfl⟩, e⟩ := pv
        have hvF := SqL.of (K := K) (e _ _ hvE)
        refine ⟨_, rfl, vl, _, 0, .int di, rfl, rfl, hvF, rfl, _, rfl, vl, _, 1, .int ti, rfl, rfl, hvF, rfl, _, rfl, vl, _, 2, .int li, rfl, rfl, hvF, rfl, _, rfl, vl, _, 3, .int qi, rfl, rfl, hvF, rfl, .inl ⟨_, rfl, _, _, rfl, rfl, (show (0 : Int) < 500 by decide), _, _, rfl, rfl, fun x2 dx2 hx2 hdx2 hne2 => mk_lull (q := qi % 500 + 1) (lullDue_ok d1 d2 t1 t2' l1 l2 (by omega) (by omega)) hx2 hdx2 hne2 rfl fun H9 e9 hl9 => ⟨rfl, ?_⟩⟩⟩
        have hvG := SqL.of (K := K) (e9 _ _ (e _ _ hvE))
        refine ⟨_, rfl, _, rfl, vl, _, 0, .int di, rfl, rfl, hvG, rfl, _, rfl, vl, _, 1, .int ti, rfl, rfl, hvG, rfl, _, rfl, vl, _, 2, .int li, rfl, rfl, hvG, rfl, _, rfl, vl, _, 3, .int qi, rfl, rfl, hvG, rfl, fun x3 dx3 hx3 hdx3 hne3 => mk_lull (lullDue_ok d1 d2 t1 t2' l1 l2 qq1 qq2) hx3 hdx3 hne3 rfl fun HA eA hlA => ⟨rfl, ?_⟩⟩
        have eEA := (e.trans e9).trans eA
        have hlx := hlE.ext eEA
        obtain ⟨dm, him⟩ := id hlx
        obtain ⟨dm3, him3⟩ := id hlA
        obtain ⟨dm2, him2⟩ := id (hl9.ext eA)
        refine ⟨x, dm, _, .ref A.Lull, rfl, him, T.Lull.tyOf him3, T.Lull.nfMe, x, di, ti, li, qi, _, rfl, hlx, .inl ⟨x3, di, ti, li, qi, rfl, hlA, _, rfl, _, rfl, ?_⟩⟩
        rw [decide_eq_true ⟨rfl, rfl, rfl, rfl⟩]
        refine iteT ⟨_, rfl, _, rfl, x, dm, _, .ref A.Lull, rfl, him, T.Lull.tyOf him2, T.Lull.nfMe, x, di, ti, li, qi, _, rfl, hlx, .inl ⟨x2, di, ti, li, qi % 500 + 1, rfl, hl9.ext eA, _, rfl, _, rfl, _, rfl, ?_⟩⟩
        rw [decide_eq_false (fun h => by have := h.2.2.2; omega)]
        have hdv : Dp K HA (.ref vl) (.list ([V.int di, .int ti, .int li, .int qi].map pd)) := .lst (SqL.of (eEA _ _ hvE)) (dp_all fun v hv => fl_ints (ns := [di, ti, li, qi]) v hv)
        refine iteT ⟨_, rfl, _, rfl, x, dm, _, .type "list", rfl, him, dp_ty hdv, ?_, x, di, ti, li, qi, _, rfl, hlx, .inr ⟨_, hdv, _, rfl, _, rfl, ?_⟩⟩
        · exact nfList
        · exact k _ (stE.ext eEA) (tbE.ext eEA) (tE.trans (extT eEA))
end
end K29

set_option Elab.async false
set_option maxRecDepth 100000
set_option maxHeartbeats 4000000
namespace K29
open PySem PySem.Spec PyProof.Rows L2
theorem dps_snoc {K : PySem.W.Frag} {H : Hp} {v : V} {d : PyData} (hv : Dp K H v d) : ∀ {vs : List V} {ds : List PyData}, DpAll K H vs ds → DpAll K H (vs ++ [v]) (ds ++ [d])
  | [], _, h => by cases h; exact .cons hv .nil
  | _ :: _, _, h => by
    cases h with
    | cons a b => exact .cons a (dps_snoc hv b)
/-- boxes in a list: tuples of four -/
def BxAt (H : Hp) : List V → List Bx → Prop
  | [], [] => True
  | v :: vs, q :: qs => (∃ t, v = .ref t ∧ H t = some (.tup [.int q.1, .int q.2.1, .int q.2.2.1, .int q.2.2.2])) ∧ BxAt H vs qs
  | _, _ => False
theorem BxAt.to {H H' : Hp} (e : ∀ t xs, H t = some (.tup xs) → H' t = some (.tup xs)) : ∀ {vs : List V} {qs : List Bx}, BxAt H vs qs → BxAt H' vs qs
  | [], [], _ => trivial
  | [], _ :: _, h => h.elim
  | _ :: _, [], h => h.elim
  | _ :: _, _ :: _, ⟨⟨t, h1, h2⟩, h⟩ => ⟨⟨t, h1, e _ _ h2⟩, BxAt.to e h⟩
theorem BxAt.snoc {H : Hp} {t : Addr} {q : Bx} (ht : H t = some (.tup [.int q.1, .int q.2.1, .int q.2.2.1, .int q.2.2.2])) : ∀ {vs : List V} {qs : List Bx}, BxAt H vs qs → BxAt H (vs ++ [.ref t]) (qs ++ [q])
  | [], [], _ => ⟨⟨t, rfl, ht⟩, trivial⟩
  | [], _ :: _, h => h.elim
  | _ :: _, [], h => h.elim
  | _ :: _, _ :: _, ⟨a, h⟩ => ⟨a, BxAt.snoc ht h⟩
theorem BxAt.len {H : Hp} : ∀ {vs : List V} {qs : List Bx}, BxAt H vs qs → vs.length = qs.length
  | [], [], _ => rfl
  | [], _ :: _, h => h.elim
  | _ :: _, [], h => h.elim
  | _ :: _, _ :: _, ⟨_, h⟩ => by rw [List.length_cons, List.length_cons, BxAt.len h]
theorem BxAt.dp {K : PySem.W.Frag} {H : Hp} : ∀ {vs : List V} {qs : List Bx}, BxAt H vs qs → DpAll K H vs (qs.map bxD)
  | [], [], _ => .nil
  | [], _ :: _, h => h.elim
  | _ :: _, [], h => h.elim
  | _ :: _, q :: _, ⟨⟨t, h1, h2⟩, h⟩ => by
    rw [h1]
    exact .cons (.tup (SqT.of h2) (.cons (.int _) (.cons (.int _) (.cons (.int _) (.cons (.int _) .nil))))) (BxAt.dp h)
/-- what is drawn: the list at p, its boxes at bx, its rows at ro -/
structure Drawn (H : Hp) (p bx ro : Addr) (xs : List V) (r : PlD) : Prop where
  p : H p = some (.lst [.int r.o, .int r.l, .int r.d, .ref bx, .int r.la, .int r.tu, .int r.lo, .ref ro, .int r.qu, .int r.pe])
  bx : H bx = some (.lst xs)
  xs : BxAt H xs r.bs
  ro : H ro = some (.lst (r.rs.map V.int))
section
variable {P : Program} {w : World} {K : PySem.W.Frag} {mg : Str → Option Value} {base : Heap} {A : Ad}
theorem mutTup {r : Addr} {H : Hp} {xs ys : List V} (h : H r = some (.lst xs)) : ∀ t zs, H t = some (.tup zs) → upd H r (.lst ys) t = some (.tup zs) := fun t zs ht => by
  rw [upd_ne (fun z => by rw [z, h] at ht; cases ht)]
  exact ht
theorem poolTup {st : Addr} {H H' : Hp} (h : PoolD H st) (e : ExtM st H H') : ∀ t zs, H t = some (.tup zs) → H' t = some (.tup zs) := fun t zs ht => e t _ (fun z => by
  obtain ⟨a, b, hs, _⟩ := h
  rw [z, hs] at ht
  cases ht) ht
def spRoadDraw : Sp := fun vs H Q _ => ∃ (st : Addr), vs = [.ref st, .int 60] ∧ PoolD H st ∧ ∀ (p bx ro : Addr) (xs : List V) (r : PlD) H', Drawn H' p bx ro xs r → PlOk r → p ≠ st → bx ≠ st → ro ≠ st → H p = none → H bx = none → H ro = none → PoolD H' st → ExtM st H H' → Q (.ref p) H'
theorem ok_road {f : Addr} {fd : FuncData} (F : Fun K "_law_road" "_law_road" s__law_road f fd) (T : Txt K mg A) (O__law_take : Own P w K mg base CX0 "_law_take" 1 pm__law_take spTake) : FnOk P w K mg base CX0 2 f fd pm__law_road spRoadDraw := by
  refine F.ok sc__law_road (fun vs H Q E h => ?_) (fun cdv A' outer s H vs Q E hr h => ?_)
  · obtain ⟨_, rfl, _⟩ := h
    rfl
  · obtain ⟨st, rfl, st0, k⟩ := h
    refine ⟨_, pss_cons (ps_par (i := 2) (j := 3) (by rfl) sc__law_road.nd rfl rfl (by decide) rfl rfl (pa_cons (pe_own O__law_take (hr.mono (by decide)) pass0 (pa_cons (pv 0) (pa_cons (pe_int) pa_nil))) (pa_cons (pe_op op_add (pe_int) (pe_own O__law_take (hr.mono (by decide)) pass0 (pa_cons (pv 0) (pa_cons (pe_int) pa_nil)))) pa_nil)) (by rfl))
      (pss_cons (ps_set (i := 4) sc__law_road.nd rfl (Or.inl rfl) (pe_op op_add (pv 3) (pe_own O__law_take (hr.mono (by decide)) pass0 (pa_cons (pv 0) (pa_cons (pe_int) pa_nil)))))
      (pss_cons (ps_set (i := 5) sc__law_road.nd rfl (Or.inl rfl) (pe_lst (pa_nil)))
      (pss_cons (ps_for PassesOwn.never rfl (pi_range1 rfl T.n_range (pa_cons (pe_own O__law_take (hr.mono (by decide)) pass0 (pa_cons (pv 0) (pa_cons (pe_int) pa_nil))) pa_nil)) (pg_name (i := 6) sc__law_road.nd rfl (Or.inl rfl)) (pss_cons (ps_set (i := 7) sc__law_road.nd rfl (Or.inl rfl) (pe_own O__law_take (hr.mono (by decide)) pass0 (pa_cons (pv 0) (pa_cons (pe_op op_add (pv 3) (pe_int)) pa_nil))))
      (pss_cons (ps_set (i := 8) sc__law_road.nd rfl (Or.inl rfl) (pe_op op_add (pv 7) (pe_own O__law_take (hr.mono (by decide)) pass0 (pa_cons (pv 0) (pa_cons (pe_op op_add (pe_op op_sub (pv 4) (pv 7)) (pe_int)) pa_nil)))))
      (pss_cons (ps_set (i := 9) sc__law_road.nd rfl (Or.inl rfl) (pe_op op_add (pe_int) (pe_own O__law_take (hr.mono (by decide)) pass0 (pa_cons (pv 0) (pa_cons (pv 1) pa_nil)))))
      (pss_one (ps_expr (pe_bm PySem.F.plainAttrs_list PySem.F.slot_list_append PySem.F.type_list_append mt_append (pv 5) (pa_cons (pe_tup (pa_cons (pv 7) (pa_cons (pv 8) (pa_cons (pv 9) (pa_cons (pe_op op_add (pv 9) (pe_own O__law_take (hr.mono (by decide)) pass0 (pa_cons (pv 0) (pa_cons (pe_int) pa_nil)))) pa_nil))))) pa_nil))))))))
      (pss_cons (ps_set (i := 10) sc__law_road.nd rfl (Or.inl rfl) (pe_op op_add (pe_op op_add (pv 2) (pe_op op_mul (pe_int) (pv 3))) (pe_own O__law_take (hr.mono (by decide)) pass0 (pa_cons (pv 0) (pa_cons (pe_op op_add (pe_op op_mul (pe_int) (pe_op op_sub (pv 4) (pv 3))) (pe_int)) pa_nil)))))
      (pss_cons (ps_setLc (i := 11) (own := [("_law_turn", 6)]) (g := gName 6) (by rfl) sc__law_road.nd rfl rfl (sw_true rfl rfl rfl (by decide +kernel)) (pi_range1 rfl T.n_range (pa_cons (pe_op op_add (pe_int) (pe_own O__law_take (hr.mono (by decide)) pass0 (pa_cons (pv 0) (pa_cons (pe_int) pa_nil)))) pa_nil)) (blkOk_by (own := [("_law_turn", 6)]) (N := nm__law_road) (sc := defScope s__law_road) (by decide +kernel)) (fun _ _ _ _ _ => pg_name (i := 6) sc__law_road.nd rfl (Or.inl rfl)) (fun s1 H1 C1 cl fp => pts_nil) (fun s1 H1 C1 cl fp => pe_op op_add (pe_int) (pe_own O__law_take (hr.mono (by decide)) pass0 (pa_cons (pv 0) (pa_cons (pe_int) pa_nil)))))
      (pss_one (ps_ret (pe_lst (pa_cons (pv 2) (pa_cons (pv 3) (pa_cons (pv 4) (pa_cons (pv 5) (pa_cons (pv 10) (pa_cons (pe_op op_add (pe_op op_mul (pe_int) (pv 4)) (pe_own O__law_take (hr.mono (by decide)) pass0 (pa_cons (pv 0) (pa_cons (pe_int) pa_nil)))) (pa_cons (pe_op op_add (pe_int) (pe_own O__law_take (hr.mono (by decide)) pass0 (pa_cons (pv 0) (pa_cons (pe_int) pa_nil)))) (pa_cons (pv 11) (pa_cons (pe_op op_add (pe_int) (pe_own O__law_take (hr.mono (by decide)) pass0 (pa_cons (pv 0) (pa_cons (pe_int) pa_nil)))) (pa_cons (pe_op op_add (pe_int) (pe_own O__law_take (hr.mono (by decide)) pass0 (pa_cons (pv 0) (pa_cons (pe_int) pa_nil)))) pa_nil)))))))))))))))))), ?_⟩
    refine ⟨_, rfl, st, 9, rfl, st0, by decide, by decide, fun n1 H1 n10 n11 st1 x1 => ⟨_, rfl, st, 3, rfl, st1, by decide, by decide, fun n2 H2 n20 n21 st2 x2 => ⟨_, _, rfl, rfl, _, _, rfl, ?_⟩⟩⟩
    refine ⟨_, rfl, _, rfl, st, 3, rfl, st2, by decide, by decide, fun n3 H3 n30 n31 st3 x3 => ⟨_, _, rfl, rfl, by show 0 ≤ sizeLine; decide, fun bx hbx => ?_⟩⟩
    have e4 := Ext.upd (o := .lst []) hbx
    have nbx := st3.new hbx
    have x03 := (x1.trans x2).trans x3
    have hbx0 := ExtM.none x03 nbx hbx
    refine ⟨_, rfl, st, 4, rfl, st3.ext e4, by decide, by decide, fun n4 H5 n40 n41 st5 x5 => ⟨n4, rfl, by omega, by omega, ?_⟩⟩
    refine for_range (fun i σ' H' => ∃ (xs : List V) (bs : List Bx) (o6 o7 o8 o9 : Option V), σ' = [some (.ref st), some (.int 60), some (.int n1), some (.int (1 + n2)), some (.int (1 + n2 + n3)), some (.ref bx), o6, o7, o8, o9, Option.none, Option.none] ∧ H' bx = some (.lst xs) ∧ BxAt H' xs bs ∧ bs.length = i ∧ (∀ q ∈ bs, bxOk q (1 + n2) (1 + n2 + n3)) ∧ PoolD H' st ∧ ExtM st H H')
      ⟨[], [], _, _, _, _, rfl, x5 _ _ nbx upd_same, trivial, rfl, (fun _ h => nomatch h), st5, (x03.trans (Ext.m e4)).trans x5⟩ (fun i σ' H' hi pv => ?_) (fun σ' H' pv => ?_)
    · obtain ⟨xs, bs, o6, o7, o8, o9, rfl, hb, hxs, hlb, hok, stp, xp⟩ := pv
      refine ⟨_, rfl, _, rfl, _, _, rfl, rfl, st, _, rfl, stp, by omega, by omega, fun m1 J1 m10 m11 s1 y1 => ?_⟩
      refine ⟨_, rfl, _, rfl, _, rfl, _, rfl, _, _, rfl, rfl, _, _, rfl, rfl, st, _, rfl, s1, by omega, by omega, fun m2 J2 m20 m21 s2 y2 => ⟨_, _, rfl, rfl, ?_⟩⟩
      refine ⟨_, rfl, _, rfl, st, 60, rfl, s2, by decide, by decide, fun m3 J3 m30 m31 s3 y3 => ⟨_, _, rfl, rfl, ?_⟩⟩
      have y := (y1.trans y2).trans y3
      have hb3 := y _ _ nbx hb
      refine ⟨_, rfl, .inl ⟨rfl, _, SqL.of hb3⟩, _, rfl, _, rfl, _, rfl, _, rfl, _, rfl, st, 9, rfl, s3, by decide, by decide, fun m4 J4 m40 m41 s4 y4 => ⟨_, _, rfl, rfl, by show 4 ≤ sizeLine; decide, fun t ht => ?_⟩⟩
      have et := Ext.upd (o := .tup [.int m1, .int (m1 + m2), .int (1 + m3), .int (1 + m3 + m4)]) ht
      have hb5 := et _ _ (y4 _ _ nbx hb3)
      refine ⟨bx, _, _, rfl, rfl, hb5, small1000 (by have := hxs.len; omega), ?_⟩
      refine ⟨xs ++ [.ref t], bs ++ [(m1, m1 + m2, 1 + m3, 1 + m3 + m4)], _, _, _, _, rfl, upd_same, ?_, by rw [List.length_append, hlb]; rfl, fun q hq => ?_, ?_, ?_⟩
      · refine BxAt.snoc ?_ (BxAt.to (fun t zs h => mutTup hb5 _ _ (et _ _ (poolTup s3 y4 _ _ (poolTup s2 y3 _ _ (poolTup s1 y2 _ _ (poolTup stp y1 _ _ h)))))) hxs)
        exact mutTup hb5 _ _ upd_same
      · rcases List.mem_append.mp hq with h | h
        · exact hok q h
        · rw [List.mem_singleton.mp h]
          refine ⟨by show 0 ≤ m1; omega, by show m1 ≤ m1 + m2; omega, by show m1 + m2 ≤ 1 + n2 + n3; omega, by show m1 ≤ 1 + n2; omega, by show 1 ≤ 1 + m3; omega, by show 1 + m3 ≤ 1 + m3 + m4; omega, by show 1 + m3 + m4 ≤ 10000; omega⟩
      · obtain ⟨a, b, hs, hh⟩ := s4.ext et
        exact ⟨a, b, by rw [upd_ne nbx.symm]; exact hs, hh⟩
      · exact fun u o hu ho => by
          rw [upd_ne (fun z => by rw [z, hbx0] at ho; cases ho)]
          exact ((((xp.trans y).trans y4).trans (Ext.m et)) u o hu ho)
    · obtain ⟨xs, bs, o6, o7, o8, o9, rfl, hb, hxs, hlb, hok, stp, xp⟩ := pv
      refine ⟨_, rfl, _, rfl, _, _, rfl, rfl, .inl ⟨by decide, by decide⟩, _, _, rfl, rfl, _, rfl, _, rfl, _, rfl, _, _, rfl, rfl, _, _, rfl, rfl, .inl ⟨by decide, by decide⟩, _, _, rfl, rfl, st, _, rfl, stp, by omega, by omega, fun n5 J1 n50 n51 s1 y1 => ⟨_, _, rfl, rfl, ?_⟩⟩
      refine ⟨_, rfl, st, 3, rfl, s1, by decide, by decide, fun n6 J2 n60 n61 s2 y2 => ⟨_, _, rfl, rfl, _, rfl, by omega, by omega, fun D hD => ?_⟩⟩
      have nD := s2.new hD
      have xJ2 := (xp.trans y1).trans y2
      have hb2 := y2 _ _ nbx (y1 _ _ nbx hb)
      have hxs2 : BxAt J2 xs bs := BxAt.to (fun t zs h => poolTup s1 y2 _ _ (poolTup stp y1 _ _ h)) hxs
      have hD0 := ExtM.none xJ2 nD hD
      refine lc_range (fun m H' => ∃ rs : List Int, H' D = some (.lst (rs.map V.int)) ∧ rs.length = m ∧ (∀ x ∈ rs, 1 ≤ x ∧ x ≤ 100) ∧ PoolD H' st ∧ ExtM st J2 H') ⟨[], upd_same, rfl, (fun _ h => nomatch h), s2.ext (Ext.upd hD), Ext.m (Ext.upd hD)⟩ (fun m H' hm pv => ?_) (fun H' pv => ?_)
      · obtain ⟨rs, hr, hrl, hrr, sp, yp⟩ := pv
        refine ⟨rfl, ⟨_, rfl, st, 3, rfl, sp, by decide, by decide, fun n7 J3 n70 n71 s3 y3 => ⟨_, _, rfl, rfl, _, y3 _ _ nD hr, ?_, rs ++ [1 + n7], ?_, by rw [List.length_append, hrl]; rfl, fun x hx => ?_, ?_, ?_⟩⟩⟩
        · rw [List.length_map]
          exact small_sz (by omega)
        · rw [upd_same, List.map_append]
          rfl
        · rcases List.mem_append.mp hx with h | h
          · exact hrr x h
          · rw [List.mem_singleton.mp h]
            omega
        · obtain ⟨a, b, hs, hh⟩ := s3
          exact ⟨a, b, by rw [upd_ne nD.symm]; exact hs, hh⟩
        · exact fun u o hu ho => by
            rw [upd_ne (ne_of_none ho hD)]
            exact (yp.trans y3) u o hu ho
      · obtain ⟨rs, hr, hrl, hrr, sp, yp⟩ := pv
        have hb3 := yp _ _ nbx hb2
        have hxs3 : BxAt H' xs bs := BxAt.to (fun t zs h => poolTup s2 yp _ _ h) hxs2
        refine ⟨_, rfl, _, rfl, _, rfl, _, rfl, _, rfl, _, rfl, _, _, rfl, rfl, .inl ⟨by decide, by decide⟩, _, rfl, st, 9, rfl, sp, by decide, by decide, fun n8 K1 n80 n81 r1 z1 => ⟨_, _, rfl, rfl, _, rfl, st, 3, rfl, r1, by decide, by decide, fun n9 K2 n90 n91 r2 z2 => ⟨_, _, rfl, rfl, _, rfl, _, rfl, st, 24, rfl, r2, by decide, by decide, fun na K3 na0 na1 r3 z3 => ⟨_, _, rfl, rfl, _, rfl, st, 12, rfl, r3, by decide, by decide, fun nb K4 nb0 nb1 r4 z4 => ⟨_, _, rfl, rfl, by show 10 ≤ sizeLine; decide, fun p hp => ?_⟩⟩⟩⟩⟩
        have z := ((z1.trans z2).trans z3).trans z4
        have ep := Ext.upd (o := .lst [.int n1, .int (1 + n2), .int (1 + n2 + n3), .ref bx, .int (n1 + 2 * (1 + n2) + n5), .int (2 * (1 + n2 + n3) + n8), .int (1 + n9), .ref D, .int (1 + na), .int (1 + nb)]) hp
        have xK := (xJ2.trans yp).trans z
        have np := r4.new hp
        refine k p bx D xs ⟨n1, 1 + n2, 1 + n2 + n3, bs, n1 + 2 * (1 + n2) + n5, 2 * (1 + n2 + n3) + n8, 1 + n9, rs, 1 + na, 1 + nb⟩ _ ⟨upd_same, ep _ _ (z _ _ nbx hb3), BxAt.to (fun t zs h => ep _ _ (poolTup r3 z4 _ _ (poolTup r2 z3 _ _ (poolTup r1 z2 _ _ (poolTup sp z1 _ _ h))))) hxs3, ep _ _ (z _ _ nD hr)⟩
          ⟨n10, by show n1 ≤ 1000; omega, by show 1 ≤ 1 + n2; omega, by show 1 + n2 ≤ 1 + n2 + n3; omega, by show 1 + n2 + n3 ≤ 45; omega, hok, by show bs.length ≤ 3; omega, by show n1 + 2 * (1 + n2) ≤ n1 + 2 * (1 + n2) + n5; omega, by show n1 + 2 * (1 + n2) + n5 ≤ n1 + 2 * (1 + n2 + n3); omega, by show 2 * (1 + n2 + n3) ≤ 2 * (1 + n2 + n3) + n8; omega, by show 2 * (1 + n2 + n3) + n8 ≤ 190; omega, by show 1 ≤ 1 + n9; omega, by show 1 + n9 ≤ 3; omega, by show 1 ≤ rs.length; omega, by show rs.length ≤ 3; omega, hrr, by show 1 ≤ 1 + na; omega, by show 1 + na ≤ 400; omega, by show 1 ≤ 1 + nb; omega, by show 1 + nb ≤ 190; omega⟩
          np nbx nD (ExtM.none xK np hp) hbx0 hD0 (r4.ext ep) (xK.trans (Ext.m ep))
end
end K29

set_option Elab.async false
set_option maxRecDepth 100000
set_option maxHeartbeats 4000000
namespace K29
open PySem PySem.Spec PyProof.Rows L2
theorem rowsD_ok {rs : List Int} {x : PyData} (hx : itemsD x = some (rs.map PyData.int)) (h1 : 1 ≤ rs.length) (h3 : rs.length ≤ 3) (hr : ∀ y ∈ rs, 1 ≤ y ∧ y ≤ 600) : rowsD x = true := by
  unfold rowsD
  rw [hx]
  show ((decide ((1 : Int) ≤ ((rs.map PyData.int).length : Int)) && decide (((rs.map PyData.int).length : Int) ≤ 3)) && (rs.map PyData.int).all (fun d => betD d 1 600)) = true
  rw [List.length_map, decide_eq_true (by omega), decide_eq_true (by omega), Bool.and_self, Bool.true_and, List.all_eq_true]
  intro d hd
  obtain ⟨y, hy, rfl⟩ := List.mem_map.mp hd
  obtain ⟨a, b⟩ := hr y hy
  exact bD_yes a b
/-- a road's data, in order -/
structure RdOk (n l m la tu lo qu pe : Int) (rs : List Int) : Prop where
  a1 : n + 2 * l ≤ la
  a2 : la ≤ n + 2 * m
  t1 : 2 * m ≤ tu
  t2 : tu ≤ 200
  l1 : 1 ≤ lo
  l2 : lo ≤ 3
  r1 : 1 ≤ rs.length
  r3 : rs.length ≤ 3
  rr : ∀ y ∈ rs, 1 ≤ y ∧ y ≤ 600
  q1 : 1 ≤ qu
  q2 : qu ≤ 500
  p1 : 1 ≤ pe
  p2 : pe ≤ 200
theorem roadDue_ok {n l m la tu lo qu pe : Int} {rs : List Int} {x : PyData} (h : RdOk n l m la tu lo qu pe rs) (hx : itemsD x = some (rs.map PyData.int)) : roadDue n l m (.int la) (.int tu) (.int lo) x (.int qu) (.int pe) = none := by
  unfold roadDue lullDue2 rowsDue quietDue perDue
  rw [bD_yes h.a1 h.a2, bD_yes h.t1 h.t2, bD_yes h.l1 h.l2, rowsD_ok hx h.r1 h.r3 h.rr, bD_yes h.q1 h.q2, bD_yes h.p1 h.p2]
  rfl
section
variable {P : Program} {w : World} {K : PySem.W.Frag} {mg : Str → Option Value} {base : Heap} {A : Ad}
theorem mk_way {bo : Option Int} {li mi : Int} {bs : List Bx} {xd : PyData} (hb : bOk bo) (hd : 1 ≤ li ∧ li ≤ mi ∧ mi ≤ 50) (hx : xd = .list (bs.map bxD) ∨ xd = .tuple (bs.map bxD)) (hl : bs.length ≤ 3) (hbs : ∀ q ∈ bs, bxOk q li mi)
    {H : Hp} {x dx : Addr} {vx : V} (hvx : Dp K H vx xd) (hx0 : H x = none) (hdx : H dx = none) (hne : dx ≠ x) {vs : List V} (hvs : vs = [.ref x, bV bo, .int li, .int mi, vx]) {Q : VK} {E : XK} (k : ∀ H', Ext H H' → MyWay K A H' x bo li mi bs → Q .non H') :
    spWayInit K A vs (upd (upd H dx (.own x)) x (.ins A.Way dx [])) Q E := by
  have e3 := (Ext.upd (o := .own x) hdx).upd' (o := .ins A.Way dx []) (by rw [upd_ne hne.symm]; exact hx0)
  have due := due_ok hb hd hx hl hbs
  refine ⟨x, dx, _, _, _, _, bD bo, .int li, .int mi, xd, hvs, upd_same, bV_dp bo, .int _, .int _, dp_ext e3 _ _ hvx, fun s hs => (by rw [due] at hs; cases hs), fun i hs => (by rw [due] at hs; cases hs), fun _ ds H' hit hw hB => ?_⟩
  have hds : ds = bs.map bxD := by
    rcases hx with rfl | rfl <;> exact (Option.some.inj hit).symm
  subst hds
  obtain ⟨T, xs, h1, h2, h3⟩ := hw
  exact k H' (fun a u h => hB a u (ne_of_none h hx0) (e3 a u h)) ⟨dx, T, xs, h1, h2, h3⟩
theorem mk_road {n l m la tu lo qu pe : Int} {rs : List Int} {bs : List Bx} {xd : PyData} (h : RdOk n l m la tu lo qu pe rs) (hx : itemsD xd = some (rs.map PyData.int)) {H : Hp} {x dx wp : Addr} {vx : V} (hvx : Dp K H vx xd) (hw : MyWay K A H wp (some n) l m bs)
    (hx0 : H x = none) (hdx : H dx = none) (hne : dx ≠ x) {vs : List V} (hvs : vs = [.ref x, .ref wp, .int la, .int tu, .int lo, vx, .int qu, .int pe]) {Q : VK} {E : XK} (k : ∀ H', Ext H H' → RdAt K A H' x ⟨some n, l, m, bs, la, tu, lo, rs, qu, pe⟩ → Q .non H') :
    spRoadInit K A vs (upd (upd H dx (.own x)) x (.ins A.Road dx [])) Q E := by
  have e3 := (Ext.upd (o := .own x) hdx).upd' (o := .ins A.Road dx []) (by rw [upd_ne hne.symm]; exact hx0)
  have due := roadDue_ok h hx
  refine ⟨x, dx, _, _, _, _, _, _, _, .int la, .int tu, .int lo, xd, .int qu, .int pe, hvs, upd_same, .int _, .int _, .int _, dp_ext e3 _ _ hvx, .int _, .int _, .inr ⟨wp, some n, l, m, bs, rfl, hw.ext e3, (fun h => nomatch h), fun n' hn => ?_⟩⟩
  cases hn
  refine ⟨fun s hs => (by rw [due] at hs; cases hs), fun _ lai tui loi qui pei rs' q1 q2 q3 q4 q5 hit H' hr hB => ?_⟩
  cases q1
  cases q2
  cases q3
  cases q4
  cases q5
  have hrs : rs' = rs := by
    rw [hx] at hit
    have := Option.some.inj hit
    exact ((List.map_inj_right (fun a b h => by cases h; rfl)).mp this).symm
  subst hrs
  have eH : Ext H H' := fun a u h => hB a u (ne_of_none h hx0) (e3 a u h)
  exact k H' eH ⟨wp, hr, hw.ext eH⟩
def rdOf (r : PlD) : RdD := ⟨some r.o, r.l, r.d, r.bs, r.la, r.tu, r.lo, r.rs, r.qu, r.pe⟩
/-- what a road may be made of -/
structure MdOk (r : PlD) : Prop where
  o1 : 0 ≤ r.o
  o2 : r.o ≤ 1000
  l1 : 1 ≤ r.l
  ld : r.l ≤ r.d
  d2 : r.d ≤ 50
  bx : ∀ q ∈ r.bs, bxOk q r.l r.d
  b3 : r.bs.length ≤ 3
  ok : RdOk r.o r.l r.d r.la r.tu r.lo r.qu r.pe r.rs
theorem PlOk.md {r : PlD} (h : PlOk r) : MdOk r := ⟨h.o1, h.o2, h.l1, h.ld, by have := h.d2; omega, h.bx, h.b3, ⟨h.a1, h.a2, h.t1, by have := h.t2; omega, h.s1, h.s2, h.r1, h.r3, fun y hy => by have := h.rr y hy; omega, h.q1, by have := h.q2; omega, h.p1, by have := h.p2; omega⟩⟩
theorem ints_dp {H : Hp} {ro : Addr} {rs : List Int} (h : H ro = some (.lst (rs.map V.int))) : Dp K H (.ref ro) (.list (rs.map PyData.int)) := by
  have := Dp.lst (K := K) (SqL.of h) (dp_all (K := K) (H := H) (vs := rs.map V.int) fl_ints)
  rw [List.map_map] at this
  exact this
def spMade (K : PySem.W.Frag) (A : Ad) : Sp := fun vs H Q _ => ∃ (p bx ro : Addr) (xs : List V) (r : PlD), vs = [.ref p] ∧ Drawn H p bx ro xs r ∧ MdOk r ∧ ∀ q H', Ext H H' → H q = none → RdAt K A H' q (rdOf r) → Q (.ref q) H'
theorem ok_made {f : Addr} {fd : FuncData} (F : Fun K "_law_made" "_law_made" s__law_made f fd) (O_Way : OwnC P w K mg base (L2.CX P w) "Way" A.Way 5 pm_Way_init (spWayInit K A)) (O_Road : OwnC P w K mg base (L2.CX P w) "Road" A.Road 5 pm_Road_init (spRoadInit K A)) : FnOk P w K mg base CX0 7 f fd pm__law_made (spMade K A) := by
  refine F.ok sc__law_made (fun vs H Q E h => ?_) (fun cdv A' outer s H vs Q E hr h => ?_)
  · obtain ⟨_, _, _, _, _, rfl, _⟩ := h
    rfl
  · obtain ⟨p, bx, ro, xs, r, rfl, hd, ok, k⟩ := h
    refine ⟨_, pss_cons (ps_set (i := 1) sc__law_made.nd rfl (Or.inl rfl) (pe_new O_Way (hr.mono (by decide)) passL (pa_cons (pe_ix ix_list (pv 0) (pe_int) (fun _ _ => rfl)) (pa_cons (pe_ix ix_list (pv 0) (pe_int) (fun _ _ => rfl)) (pa_cons (pe_ix ix_list (pv 0) (pe_int) (fun _ _ => rfl)) (pa_cons (pe_ix ix_list (pv 0) (pe_int) (fun _ _ => rfl)) pa_nil))))))
      (pss_one (ps_ret (pe_new O_Road (hr.mono (by decide)) passL (pa_cons (pv 1) (pa_cons (pe_ix ix_list (pv 0) (pe_int) (fun _ _ => rfl)) (pa_cons (pe_ix ix_list (pv 0) (pe_int) (fun _ _ => rfl)) (pa_cons (pe_ix ix_list (pv 0) (pe_int) (fun _ _ => rfl)) (pa_cons (pe_ix ix_list (pv 0) (pe_int) (fun _ _ => rfl)) (pa_cons (pe_ix ix_list (pv 0) (pe_int) (fun _ _ => rfl)) (pa_cons (pe_ix ix_list (pv 0) (pe_int) (fun _ _ => rfl)) pa_nil)))))))))), ?_⟩
    have hp := SqL.of (K := K) hd.p
    refine ⟨_, rfl, p, _, 0, .int r.o, rfl, rfl, hp, rfl, _, rfl, p, _, 1, .int r.l, rfl, rfl, hp, rfl, _, rfl, p, _, 2, .int r.d, rfl, rfl, hp, rfl, _, rfl, p, _, 3, .ref bx, rfl, rfl, hp, rfl, fun x dx hx hdx hne => mk_way (bo := some r.o) (bs := r.bs) (fun n hn => by cases hn; exact ⟨ok.o1, ok.o2⟩) ⟨ok.l1, ok.ld, ok.d2⟩ (.inl rfl) ok.b3 ok.bx (.lst (SqL.of hd.bx) hd.xs.dp) hx hdx hne rfl fun H1 e1 hw => ⟨rfl, ?_⟩⟩
    have hp1 := SqL.of (K := K) (e1 _ _ hd.p)
    refine ⟨_, rfl, _, rfl, p, _, 4, .int r.la, rfl, rfl, hp1, rfl, _, rfl, p, _, 5, .int r.tu, rfl, rfl, hp1, rfl, _, rfl, p, _, 6, .int r.lo, rfl, rfl, hp1, rfl, _, rfl, p, _, 7, .ref ro, rfl, rfl, hp1, rfl, _, rfl, p, _, 8, .int r.qu, rfl, rfl, hp1, rfl, _, rfl, p, _, 9, .int r.pe, rfl, rfl, hp1, rfl, fun x2 dx2 hx2 hdx2 hne2 => mk_road ok.ok rfl (ints_dp (e1 _ _ hd.ro)) hw hx2 hdx2 hne2 rfl fun H2 e2 hr2 => ⟨rfl, ?_⟩⟩
    exact k x2 H2 (e1.trans e2) (by
      cases q : H x2 with
      | none => rfl
      | some u =>
        rw [e1 _ _ q] at hx2
        cases hx2) hr2
end
end K29

set_option Elab.async false
set_option maxRecDepth 100000
set_option maxHeartbeats 4000000
namespace K29
open PySem PySem.Spec PyProof.Rows L2
/-- rows as they may be handed in: flat, or a list or a tuple of flat values -/
inductive RowsV (K : PySem.W.Frag) (H : Hp) : V → PyData → Prop
  | flat {v : V} (h : Fl v) : RowsV K H v (pd v)
  | lst {q : Addr} {xs : List V} (h : H q = some (.lst xs)) (hf : ∀ x ∈ xs, Fl x) (hl : xs.length ≤ 1000) : RowsV K H (.ref q) (.list (xs.map pd))
  | tup {q : Addr} {xs : List V} (h : H q = some (.tup xs)) (hf : ∀ x ∈ xs, Fl x) (hl : xs.length ≤ 1000) : RowsV K H (.ref q) (.tuple (xs.map pd))
section
variable {K : PySem.W.Frag} {H H' : Hp} {v : V} {d : PyData}
theorem RowsV.dp (h : RowsV K H v d) : Dp K H v d := by
  cases h with
  | flat h => exact dp_fl h
  | lst h hf _ => exact .lst (SqL.of h) (dp_all hf)
  | tup h hf _ => exact .tup (SqT.of h) (dp_all hf)
theorem RowsV.to (h : RowsV K H v d) (e : LamX.ExtN H H') : RowsV K H' v d := by
  cases h with
  | flat h => exact .flat h
  | lst h hf hl => exact .lst (e _ _ h nT_lst) hf hl
  | tup h hf hl => exact .tup (e _ _ h nT_tup) hf hl
end
section
variable {P : Program} {w : World} {K : PySem.W.Frag} {mg : Str → Option Value} {base : Heap} {A : Ad}
def spRoadWrong (K : PySem.W.Frag) : Sp := fun vs H Q _ => ∃ (p b : Addr) (o l d : Int) (ps : List V) (v0 v1 v2 v3 v4 v5 : V) (x3 : PyData), vs = [.ref p, .ref b] ∧ H p = some (.lst (.int o :: .int l :: .int d :: ps)) ∧ 1 ≤ d ∧ H b = some (.lst [v0, v1, v2, v3, v4, v5]) ∧ Fl v0 ∧ Fl v1 ∧ Fl v2 ∧ RowsV K H v3 x3 ∧ Fl v4 ∧ Fl v5 ∧
  ∀ H', Ext H H' → Q (sV (roadDue o l d (pd v0) (pd v1) (pd v2) x3 (pd v4) (pd v5))) H'
theorem ok_roadWrong {f : Addr} {fd : FuncData} (F : Fun K "_law_road_wrong" "_law_road_wrong" s__law_road_wrong f fd) (T : Txt K mg A) : FnOk P w K mg base CX0 1 f fd pm__law_road_wrong (spRoadWrong K) := by
  refine F.ok sc__law_road_wrong (fun vs H Q E h => ?_) (fun cdv A' outer s H vs Q E hr h => ?_)
  · obtain ⟨_, _, _, _, _, _, _, _, _, _, _, _, _, rfl, _⟩ := h
    rfl
  · obtain ⟨p, b, o, l, d, ps, v0, v1, v2, v3, v4, v5, x3, rfl, hp, hd1, hb, f0, f1, f2, hv3, f4, f5, k⟩ := h
    refine ⟨_, pss_cons (ps_asg (pv 1) (pg_unl rfl (pgs_cons (pg_name (i := 2) sc__law_road_wrong.nd rfl (Or.inl rfl)) (pgs_cons (pg_name (i := 3) sc__law_road_wrong.nd rfl (Or.inl rfl)) (pgs_cons (pg_name (i := 4) sc__law_road_wrong.nd rfl (Or.inl rfl)) (pgs_cons (pg_name (i := 5) sc__law_road_wrong.nd rfl (Or.inl rfl)) (pgs_cons (pg_name (i := 6) sc__law_road_wrong.nd rfl (Or.inl rfl)) (pgs_cons (pg_name (i := 7) sc__law_road_wrong.nd rfl (Or.inl rfl)) (pgs_nil)))))))))
      (pss_cons (ps_par (i := 8) (j := 9) (by rfl) sc__law_road_wrong.nd rfl rfl (by decide) rfl rfl (pa_cons (pe_op op_add (pe_ix ix_list (pv 0) (pe_int) (fun _ _ => rfl)) (pe_op op_mul (pe_int) (pe_ix ix_list (pv 0) (pe_int) (fun _ _ => rfl)))) (pa_cons (pe_op op_add (pe_ix ix_list (pv 0) (pe_int) (fun _ _ => rfl)) (pe_op op_mul (pe_int) (pe_ix ix_list (pv 0) (pe_int) (fun _ _ => rfl)))) pa_nil)) (by rfl))
      (pss_cons (ps_for PassesOwn.never rfl (pi_list (pe_lst (pa_cons (pe_lst (pa_cons (pe_str) (pa_cons (pv 2) (pa_cons (pv 8) (pa_cons (pv 9) pa_nil))))) (pa_cons (pe_lst (pa_cons (pe_str) (pa_cons (pv 3) (pa_cons (pe_op op_mul (pe_int) (pe_ix ix_list (pv 0) (pe_int) (fun _ _ => rfl))) (pa_cons (pe_int) pa_nil))))) (pa_cons (pe_lst (pa_cons (pe_str) (pa_cons (pv 4) (pa_cons (pe_int) (pa_cons (pe_int) pa_nil))))) pa_nil))))) (pg_unl rfl (pgs_cons (pg_name (i := 10) sc__law_road_wrong.nd rfl (Or.inl rfl)) (pgs_cons (pg_name (i := 11) sc__law_road_wrong.nd rfl (Or.inl rfl)) (pgs_cons (pg_name (i := 12) sc__law_road_wrong.nd rfl (Or.inl rfl)) (pgs_cons (pg_name (i := 13) sc__law_road_wrong.nd rfl (Or.inl rfl)) (pgs_nil)))))) (pss_one (ps_if (PW.pt (pw_or (pt_not (pt_val (pe_callB call_isi (by rfl) T.n_isinstance (by decide +kernel) (pa_cons (pv 11) (pa_cons (pe_bltn (v := .ty "int") (by rfl) T.n_int (by decide +kernel) rfl) pa_nil))))) (pw_or (pt_val (pe_callB call_isi (by rfl) T.n_isinstance (by decide +kernel) (pa_cons (pv 11) (pa_cons (pe_bltn (v := .ty "bool") (by rfl) T.n_bool (by decide +kernel) rfl) pa_nil)))) (pw_or1 (pt_not (pt_chain op_le op_le (pv 12) (pv 11) (pv 13))))))) (pss_one (ps_ret (pv 10))) (pss_nil))))
      (pss_cons (ps_if (PW.pt (pw_or (pt_not (pt_val (pe_callB call_isiT (by rfl) T.n_isinstance (by decide +kernel) (pa_cons (pv 5) (pa_cons (pe_tup (pa_cons (pe_bltn (v := .ty "list") (by rfl) T.n_list (by decide +kernel) rfl) (pa_cons (pe_bltn (v := .ty "tuple") (by rfl) T.n_tuple (by decide +kernel) rfl) pa_nil))) pa_nil))))) (pw_or1 (pt_not (pt_chain op_le op_le (pe_int) (pe_callB call_len_seq (by rfl) T.n_len (by decide +kernel) (pa_cons (pv 5) pa_nil)) (pe_int)))))) (pss_one (ps_ret (pe_str))) (pss_nil))
      (Evl.pss_cut (ps_for PassesOwn.never rfl (pi_sq (pv 5)) (pg_name (i := 14) sc__law_road_wrong.nd rfl (Or.inl rfl)) (pss_one (ps_if (PW.pt (pw_or (pt_not (pt_val (pe_callB call_isi (by rfl) T.n_isinstance (by decide +kernel) (pa_cons (pv 14) (pa_cons (pe_bltn (v := .ty "int") (by rfl) T.n_int (by decide +kernel) rfl) pa_nil))))) (pw_or (pt_val (pe_callB call_isi (by rfl) T.n_isinstance (by decide +kernel) (pa_cons (pv 14) (pa_cons (pe_bltn (v := .ty "bool") (by rfl) T.n_bool (by decide +kernel) rfl) pa_nil)))) (pw_or1 (pt_not (pt_chain op_le op_le (pe_int) (pv 14) (pe_int))))))) (pss_one (ps_ret (pe_str))) (pss_nil))))
      (pss_cons (ps_for PassesOwn.never rfl (pi_list (pe_lst (pa_cons (pe_lst (pa_cons (pe_str) (pa_cons (pv 6) (pa_cons (pe_int) pa_nil)))) (pa_cons (pe_lst (pa_cons (pe_str) (pa_cons (pv 7) (pa_cons (pe_int) pa_nil)))) pa_nil)))) (pg_unl rfl (pgs_cons (pg_name (i := 10) sc__law_road_wrong.nd rfl (Or.inl rfl)) (pgs_cons (pg_name (i := 11) sc__law_road_wrong.nd rfl (Or.inl rfl)) (pgs_cons (pg_name (i := 13) sc__law_road_wrong.nd rfl (Or.inl rfl)) (pgs_nil))))) (pss_one (ps_if (PW.pt (pw_or (pt_not (pt_val (pe_callB call_isi (by rfl) T.n_isinstance (by decide +kernel) (pa_cons (pv 11) (pa_cons (pe_bltn (v := .ty "int") (by rfl) T.n_int (by decide +kernel) rfl) pa_nil))))) (pw_or (pt_val (pe_callB call_isi (by rfl) T.n_isinstance (by decide +kernel) (pa_cons (pv 11) (pa_cons (pe_bltn (v := .ty "bool") (by rfl) T.n_bool (by decide +kernel) rfl) pa_nil)))) (pw_or1 (pt_not (pt_chain op_le op_le (pe_int) (pv 11) (pv 13))))))) (pss_one (ps_ret (pv 10))) (pss_nil))))
      (pss_one (ps_ret (pe_non)))))))), ?_⟩
    have hP := SqL.of (K := K) hp
    refine ⟨_, rfl, b, _, rfl, SqL.of hb, rfl, _, _, rfl, _, _, rfl, _, _, rfl, _, _, rfl, _, _, rfl, _, _, rfl, rfl, ?_⟩
    have i0 : atI (V.int o :: V.int l :: V.int d :: ps) 0 = some (.int o) := atI_nat (j := 0) rfl
    have i1 : atI (V.int o :: V.int l :: V.int d :: ps) 1 = some (.int l) := atI_nat (j := 1) rfl
    have i2 : atI (V.int o :: V.int l :: V.int d :: ps) 2 = some (.int d) := atI_nat (j := 2) rfl
    refine ⟨_, rfl, p, _, 0, .int o, rfl, rfl, hP, i0, _, rfl, p, _, 1, .int l, rfl, rfl, hP, i1, _, _, rfl, rfl, .inl ⟨by decide, by decide⟩, _, _, rfl, rfl, _, rfl, p, _, 0, .int o, rfl, rfl, hP, i0, _, rfl, p, _, 2, .int d, rfl, rfl, hP, i2, _, _, rfl, rfl, .inl ⟨by decide, by decide⟩, _, _, rfl, rfl, _, _, rfl, ?_⟩
    refine ⟨_, rfl, _, rfl, _, rfl, by show 4 ≤ sizeLine; decide, fun a1 h1 => ⟨_, rfl, _, rfl, p, _, 2, .int d, rfl, rfl, SqL.of (Ext.upd h1 _ _ hp), i2, _, _, rfl, rfl, .inl ⟨by decide, by decide⟩, by show 4 ≤ sizeLine; decide, fun a2 h2 => ⟨_, rfl, by show 4 ≤ sizeLine; decide, fun a3 h3 => ⟨by show 3 ≤ sizeLine; decide, fun al hal => ?_⟩⟩⟩⟩
    have e1 := Ext.upd (o := .lst [.str "last", v0, .int (o + 2 * l), .int (o + 2 * d)]) h1
    have e2 := Ext.upd (o := .lst [.str "turn", v1, .int (2 * d), .int 200]) h2
    have e3 := Ext.upd (o := .lst [.str "losses", v2, .int 1, .int 3]) h3
    have e5 := Ext.upd (o := .lst [.ref a1, .ref a2, .ref a3]) hal
    have g1 := e5 _ _ (e3 _ _ (e2 _ _ (upd_same (H := H) (a := a1) (o := .lst [.str "last", v0, .int (o + 2 * l), .int (o + 2 * d)]))))
    have g2 := e5 _ _ (e3 _ _ (upd_same (H := upd H a1 (.lst [.str "last", v0, .int (o + 2 * l), .int (o + 2 * d)])) (a := a2) (o := .lst [.str "turn", v1, .int (2 * d), .int 200])))
    have g3 := e5 _ _ (upd_same (H := upd (upd H a1 (.lst [.str "last", v0, .int (o + 2 * l), .int (o + 2 * d)])) a2 (.lst [.str "turn", v1, .int (2 * d), .int 200])) (a := a3) (o := .lst [.str "losses", v2, .int 1, .int 3]))
    have gl : upd (upd (upd (upd H a1 (.lst [.str "last", v0, .int (o + 2 * l), .int (o + 2 * d)])) a2 (.lst [.str "turn", v1, .int (2 * d), .int 200])) a3 (.lst [.str "losses", v2, .int 1, .int 3])) al (.lst [.ref a1, .ref a2, .ref a3]) al = some (.lst [.ref a1, .ref a2, .ref a3]) := upd_same
    have e05 := ((e1.trans e2).trans e3).trans e5
    have hv3' := hv3.to (extN e05)
    clear e1 e2 e3 e5
    generalize upd (upd (upd (upd H a1 _) a2 _) a3 _) al _ = HL at g1 g2 g3 gl e05 hv3' ⊢
    refine ⟨al, rfl, ⟨_, SqL.of gl⟩, ?_⟩
    -- what is asked of the first three
    let nmA : Nat → Str × V × Int × Int := fun i => if i = 0 then ("last", v0, o + 2 * l, o + 2 * d) else if i = 1 then ("turn", v1, 2 * d, 200) else ("losses", v2, 1, 3)
    refine for_list (xs := [.ref a1, .ref a2, .ref a3]) (fun i σ' H' => H' = HL ∧ (∃ o10 o11 o12 o13 : Option V, σ' = [some (.ref p), some (.ref b), some v0, some v1, some v2, some v3, some v4, some v5, some (.int (o + 2 * l)), some (.int (o + 2 * d)), o10, o11, o12, o13, Option.none]) ∧ ∀ j, j < i → betw (nmA j).2.1 (nmA j).2.2.1 (nmA j).2.2.2 = true) ⟨rfl, ⟨_, _, _, _, rfl⟩, fun j hj => absurd hj (Nat.not_lt_zero _)⟩ (fun i σ' H' _ pv => ?_) (fun i x σ' H' hx pv => ?_) (fun σ' H' pv => ?_)
    · obtain ⟨rfl, _⟩ := pv
      exact SqL.of gl
    · obtain ⟨rfl, ⟨o10, o11, o12, o13, rfl⟩, hok⟩ := pv
      have hi : i < 3 := (List.getElem?_eq_some_iff.mp hx).1
      obtain ⟨c, rfl, hc, fv⟩ : ∃ c, x = .ref c ∧ H' c = some (.lst [.str (nmA i).1, (nmA i).2.1, .int (nmA i).2.2.1, .int (nmA i).2.2.2]) ∧ Fl (nmA i).2.1 := by
        match i, hi, hx with
        | 0, _, hx => cases hx; exact ⟨_, rfl, g1, f0⟩
        | 1, _, hx => cases hx; exact ⟨_, rfl, g2, f1⟩
        | 2, _, hx => cases hx; exact ⟨_, rfl, g3, f2⟩
      have ret : betw (nmA i).2.1 (nmA i).2.2.1 (nmA i).2.2.2 = false → Q (.str (nmA i).1) H' := fun hbad => by
        have := k _ e05
        have due : roadDue o l d (pd v0) (pd v1) (pd v2) x3 (pd v4) (pd v5) = some (nmA i).1 := by
          match i, hi, hok, hbad with
          | 0, _, _, hbad =>
            unfold roadDue
            rw [pd_betw f0]
            exact if_pos hbad
          | 1, _, hok, hbad =>
            unfold roadDue lullDue2
            rw [pd_betw f0, pd_betw f1, show betw v0 (o + 2 * l) (o + 2 * d) = true from hok 0 (by omega), show betw v1 (2 * d) 200 = false from hbad]
            rfl
          | 2, _, hok, hbad =>
            unfold roadDue lullDue2
            rw [pd_betw f0, pd_betw f1, pd_betw f2, show betw v0 (o + 2 * l) (o + 2 * d) = true from hok 0 (by omega), show betw v1 (2 * d) 200 = true from hok 1 (by omega), show betw v2 1 3 = false from hbad]
            rfl
        rw [due] at this
        exact this
      have next : betw (nmA i).2.1 (nmA i).2.2.1 (nmA i).2.2.2 = true → ∀ j, j < i + 1 → betw (nmA j).2.1 (nmA j).2.2.1 (nmA j).2.2.2 = true := fun h j hj => by
        rcases Nat.lt_succ_iff_lt_or_eq.mp hj with hj | rfl
        · exact hok j hj
        · exact h
      clear_value nmA
      refine ⟨c, _, rfl, SqL.of hc, rfl, _, _, rfl, _, _, rfl, _, _, rfl, _, _, rfl, rfl, ?_⟩
      generalize nmA i = row at *
      obtain ⟨nm, v, lo, hi'⟩ := row
      refine ⟨v, rfl, v, .ty "int", .type (tnD (pd v)), .type "int", isIntD (pd v), rfl, .ty _, dp_ty (dp_fl fv), kd_int, _, rfl, ?_⟩
      cases h1 : isIntD (pd v) with
      | false =>
        refine iteT (iteT ⟨_, rfl, ret ?_⟩)
        rw [← pd_betw fv]
        exact bet_not (by rw [h1]; rfl)
      | true =>
        refine iteF ⟨v, rfl, v, .ty "bool", .type (tnD (pd v)), .type "bool", isBoolD (pd v), rfl, .ty _, dp_ty (dp_fl fv), kd_bool, _, rfl, ?_⟩
        cases h2 : isBoolD (pd v) with
        | true =>
          refine iteT (iteT ⟨_, rfl, ret ?_⟩)
          rw [← pd_betw fv]
          exact bet_not (by rw [h1, h2]; rfl)
        | false =>
          refine iteF ?_
          obtain ⟨m, hm⟩ := int_yes (show (isIntD (pd v) && !isBoolD (pd v)) = true by rw [h1, h2]; rfl)
          obtain rfl : v = .int m := by
            cases v <;> first | (cases hm; rfl) | cases hm | exact fv.elim
          refine ⟨_, rfl, _, rfl, _, _, rfl, rfl, _, rfl, ?_⟩
          cases h3 : decide (lo ≤ m) with
          | false =>
            refine iteF ⟨_, rfl, iteT ⟨_, rfl, ret ?_⟩⟩
            show (decide (lo ≤ m) && decide (m ≤ hi')) = false
            rw [h3]
            rfl
          | true =>
            refine iteT ⟨_, rfl, _, _, rfl, rfl, _, rfl, ?_⟩
            cases h4 : decide (m ≤ hi') with
            | false =>
              refine iteT ⟨_, rfl, ret ?_⟩
              show (decide (lo ≤ m) && decide (m ≤ hi')) = false
              rw [h3, h4]
              rfl
            | true =>
              refine iteF ?_
              have hbt : betw (.int m) lo hi' = true := by
                show (decide (lo ≤ m) && decide (m ≤ hi')) = true
                rw [h3, h4]
                rfl
              exact ⟨rfl, ⟨_, _, _, _, rfl⟩, next hbt⟩
    · obtain ⟨rfl, ⟨o10, o11, o12, o13, rfl⟩, hok⟩ := pv
      have b0 : betw v0 (o + 2 * l) (o + 2 * d) = true := hok 0 (by show 0 < 3; decide)
      have b1 : betw v1 (2 * d) 200 = true := hok 1 (by show 1 < 3; decide)
      have b2 : betw v2 1 3 = true := hok 2 (by show 2 < 3; decide)
      have due1 : roadDue o l d (pd v0) (pd v1) (pd v2) x3 (pd v4) (pd v5) = rowsDue x3 (pd v4) (pd v5) := by
        unfold roadDue lullDue2
        rw [pd_betw f0, pd_betw f1, pd_betw f2, b0, b1, b2]
        rfl
      rw [due1] at k
      have bad : rowsD x3 = false → ∀ H', Ext H H' → Q (.str "rows") H' := fun h H' e => by
        have := k H' e
        rw [show rowsDue x3 (pd v4) (pd v5) = some ("rows" : Str) from if_pos h] at this
        exact this
      have good : rowsD x3 = true → rowsDue x3 (pd v4) (pd v5) = (quietDue (pd v4)).or (perDue (pd v5)) := fun h => if_neg (by rw [h]; decide)
      clear hok nmA g1 g2 g3 gl
      -- the last two
      have rowsX : ∀ xs : List V, (∀ x ∈ xs, Fl x) → (x3 = .list (xs.map pd) ∨ x3 = .tuple (xs.map pd)) → rowsD x3 = ((decide ((1 : Int) ≤ (xs.length : Int)) && decide ((xs.length : Int) ≤ 3)) && xs.all fun v => betw v 1 600) := fun xs hf hx => by
        have e : (xs.map pd).all (fun d => betD d 1 600) = xs.all fun v => betw v 1 600 := by
          rw [Bool.eq_iff_iff, List.all_eq_true, List.all_eq_true]
          constructor
          · intro h x hx
            have := h (pd x) (List.mem_map.mpr ⟨x, hx, rfl⟩)
            rwa [pd_betw (hf x hx)] at this
          · intro h d hd
            obtain ⟨x, hx, rfl⟩ := List.mem_map.mp hd
            rw [pd_betw (hf x hx)]
            exact h x hx
        have hit : itemsD x3 = some (xs.map pd) := by rcases hx with rfl | rfl <;> rfl
        unfold rowsD
        rw [hit]
        show ((decide ((1 : Int) ≤ ((xs.map pd).length : Int)) && decide (((xs.map pd).length : Int) ≤ 3)) && (xs.map pd).all (fun d => betD d 1 600)) = _
        rw [List.length_map, e]
      have hdp := hv3'.dp
      cases hv3' with
      | flat h =>
        have hns : isSeqD (pd v3) = false := by cases v3 <;> first | rfl | exact h.elim
        refine ⟨v3, rfl, by show 2 ≤ sizeLine; decide, fun pp hpp => ⟨v3, pp, [.ty "list", .ty "tuple"], _, [.type "list", .type "tuple"], false, rfl, upd_same, .cons (.ty _) (.cons (.ty _) .nil), dp_ty (dp_ext (Ext.upd hpp) _ _ hdp), by rw [kd_seq, hns], _, rfl, iteT ?_⟩⟩
        refine iteT (bad ?_ _ (e05.trans (Ext.upd hpp)))
        unfold rowsD
        cases v3 <;> first | rfl | exact h.elim
      | @lst q xs hq hf hl =>
        have hro := rowsX xs hf (.inl rfl)
        have hq' : SqL K H' q xs := SqL.of hq
        refine ⟨.ref q, rfl, by show 2 ≤ sizeLine; decide, fun pp hpp => ⟨.ref q, pp, [.ty "list", .ty "tuple"], _, [.type "list", .type "tuple"], true, rfl, upd_same, .cons (.ty _) (.cons (.ty _) .nil), dp_ty (dp_ext (Ext.upd hpp) _ _ hdp), kd_seq, _, rfl, iteF ?_⟩⟩
        have eB := e05.trans (Ext.upd (o := .tup [.ty "list", .ty "tuple"]) hpp)
        have hq2 := hq'.ext (Ext.upd (o := .tup [.ty "list", .ty "tuple"]) hpp)
        generalize upd H' pp _ = HB at eB hq2 ⊢
        refine ⟨_, rfl, q, xs, rfl, .inl hq2, _, _, rfl, rfl, _, rfl, ?_⟩
        cases h1 : decide ((1 : Int) ≤ (xs.length : Int)) with
        | false => exact iteF ⟨_, rfl, iteT (bad (by rw [hro, h1]; rfl) _ eB)⟩
        | true =>
        refine iteT ⟨_, _, rfl, rfl, _, rfl, ?_⟩
        cases h2 : decide ((xs.length : Int) ≤ 3) with
        | false => exact iteT (bad (by rw [hro, h1, h2]; rfl) _ eB)
        | true =>
        have hln : (decide ((1 : Int) ≤ (xs.length : Int)) && decide ((xs.length : Int) ≤ 3)) = true := by rw [h1, h2]; rfl
        refine iteF ⟨fun σ H' => ∃ q10 q11 q12 q13 q14 : Option V, σ = [some (.ref p), some (.ref b), some v0, some v1, some v2, some (V.ref q), some v4, some v5, some (.int (o + 2 * l)), some (.int (o + 2 * d)), q10, q11, q12, q13, q14] ∧ Ext H H' ∧ rowsD (.list (xs.map pd)) = true, ⟨_, rfl, q, rfl, .inl ⟨⟨_, hq2⟩, ?_⟩⟩, fun σ' H' pv => ?rest_list⟩
        case rest_list =>
          obtain ⟨q10, q11, q12, q13, q14, rfl, eC, hg⟩ := pv
          rw [good hg] at k
          refine ⟨_, rfl, by show 3 ≤ sizeLine; decide, fun b1 hb1 => ⟨_, rfl, by show 3 ≤ sizeLine; decide, fun b2 hb2 => ⟨by show 2 ≤ sizeLine; decide, fun bl hbl => ⟨bl, rfl, ⟨_, SqL.of upd_same⟩, ?_⟩⟩⟩⟩
          have e1 := Ext.upd (o := .lst [.str "quiet", v4, .int 500]) hb1
          have e2 := Ext.upd (o := .lst [.str "period", v5, .int 200]) hb2
          have e5 := Ext.upd (o := .lst [.ref b1, .ref b2]) hbl
          have g1 := e5 _ _ (e2 _ _ (upd_same (H := H') (a := b1) (o := .lst [.str "quiet", v4, .int 500])))
          have g2 := e5 _ _ (upd_same (H := upd H' b1 (.lst [.str "quiet", v4, .int 500])) (a := b2) (o := .lst [.str "period", v5, .int 200]))
          have gl : upd (upd (upd H' b1 (.lst [.str "quiet", v4, .int 500])) b2 (.lst [.str "period", v5, .int 200])) bl (.lst [.ref b1, .ref b2]) bl = some (.lst [.ref b1, .ref b2]) := upd_same
          have eD := ((eC.trans e1).trans e2).trans e5
          generalize upd (upd (upd H' b1 _) b2 _) bl _ = HM at g1 g2 gl eD ⊢
          let nmB : Nat → Str × V × Int := fun i => if i = 0 then ("quiet", v4, 500) else ("period", v5, 200)
          refine for_list (xs := [.ref b1, .ref b2]) (fun i σ' H'' => H'' = HM ∧ (∃ r10 r11 r12 r13 r14 : Option V, σ' = [some (.ref p), some (.ref b), some v0, some v1, some v2, some (V.ref q), some v4, some v5, some (.int (o + 2 * l)), some (.int (o + 2 * d)), r10, r11, r12, r13, r14]) ∧ ∀ j, j < i → betw (nmB j).2.1 1 (nmB j).2.2 = true) ⟨rfl, ⟨_, _, _, _, _, rfl⟩, fun j hj => absurd hj (Nat.not_lt_zero _)⟩ (fun i σ' H'' _ pv => ?_) (fun i x σ' H'' hx pv => ?_) (fun σ' H'' pv => ?_)
          · obtain ⟨rfl, _⟩ := pv
            exact SqL.of gl
          · obtain ⟨rfl, ⟨r10, r11, r12, r13, r14, rfl⟩, hok⟩ := pv
            have hi : i < 2 := (List.getElem?_eq_some_iff.mp hx).1
            obtain ⟨c, rfl, hc, fv⟩ : ∃ c, x = .ref c ∧ H'' c = some (.lst [.str (nmB i).1, (nmB i).2.1, .int (nmB i).2.2]) ∧ Fl (nmB i).2.1 := by
              match i, hi, hx with
              | 0, _, hx => cases hx; exact ⟨_, rfl, g1, f4⟩
              | 1, _, hx => cases hx; exact ⟨_, rfl, g2, f5⟩
            have ret : betw (nmB i).2.1 1 (nmB i).2.2 = false → Q (.str (nmB i).1) H'' := fun hbad => by
              have := k _ eD
              have due : (quietDue (pd v4)).or (perDue (pd v5)) = some (nmB i).1 := by
                match i, hi, hok, hbad with
                | 0, _, _, hbad =>
                  unfold quietDue
                  rw [pd_betw f4, show betw v4 1 500 = false from hbad]
                  rfl
                | 1, _, hok, hbad =>
                  unfold quietDue perDue
                  rw [pd_betw f4, pd_betw f5, show betw v4 1 500 = true from hok 0 (by omega), show betw v5 1 200 = false from hbad]
                  rfl
              rw [due] at this
              exact this
            have next : betw (nmB i).2.1 1 (nmB i).2.2 = true → ∀ j, j < i + 1 → betw (nmB j).2.1 1 (nmB j).2.2 = true := fun h j hj => by
              rcases Nat.lt_succ_iff_lt_or_eq.mp hj with hj | rfl
              · exact hok j hj
              · exact h
            clear_value nmB
            refine ⟨c, _, rfl, SqL.of hc, rfl, _, _, rfl, _, _, rfl, _, _, rfl, rfl, ?_⟩
            generalize nmB i = row at *
            obtain ⟨nm, v, hi'⟩ := row
            refine ⟨v, rfl, v, .ty "int", .type (tnD (pd v)), .type "int", isIntD (pd v), rfl, .ty _, dp_ty (dp_fl fv), kd_int, _, rfl, ?_⟩
            cases h1 : isIntD (pd v) with
            | false =>
              refine iteT (iteT ⟨_, rfl, ret ?_⟩)
              rw [← pd_betw fv]
              exact bet_not (by rw [h1]; rfl)
            | true =>
              refine iteF ⟨v, rfl, v, .ty "bool", .type (tnD (pd v)), .type "bool", isBoolD (pd v), rfl, .ty _, dp_ty (dp_fl fv), kd_bool, _, rfl, ?_⟩
              cases h2 : isBoolD (pd v) with
              | true =>
                refine iteT (iteT ⟨_, rfl, ret ?_⟩)
                rw [← pd_betw fv]
                exact bet_not (by rw [h1, h2]; rfl)
              | false =>
                refine iteF ?_
                obtain ⟨m, hm⟩ := int_yes (show (isIntD (pd v) && !isBoolD (pd v)) = true by rw [h1, h2]; rfl)
                obtain rfl : v = .int m := by
                  cases v <;> first | (cases hm; rfl) | cases hm | exact fv.elim
                refine ⟨_, rfl, _, _, rfl, rfl, _, rfl, ?_⟩
                cases h3 : decide ((1 : Int) ≤ m) with
                | false =>
                  refine iteF ⟨_, rfl, iteT ⟨_, rfl, ret ?_⟩⟩
                  show (decide ((1 : Int) ≤ m) && decide (m ≤ hi')) = false
                  rw [h3]
                  rfl
                | true =>
                  refine iteT ⟨_, rfl, _, _, rfl, rfl, _, rfl, ?_⟩
                  cases h4 : decide (m ≤ hi') with
                  | false =>
                    refine iteT ⟨_, rfl, ret ?_⟩
                    show (decide ((1 : Int) ≤ m) && decide (m ≤ hi')) = false
                    rw [h3, h4]
                    rfl
                  | true =>
                    refine iteF ?_
                    have hbt : betw (.int m) 1 hi' = true := by
                      show (decide ((1 : Int) ≤ m) && decide (m ≤ hi')) = true
                      rw [h3, h4]
                      rfl
                    exact ⟨rfl, ⟨_, _, _, _, _, rfl⟩, next hbt⟩
          · obtain ⟨rfl, ⟨r10, r11, r12, r13, r14, rfl⟩, hok⟩ := pv
            have := k _ eD
            have due : (quietDue (pd v4)).or (perDue (pd v5)) = none := by
              unfold quietDue perDue
              rw [pd_betw f4, pd_betw f5, show betw v4 1 500 = true from hok 0 (by show 0 < 2; decide), show betw v5 1 200 = true from hok 1 (by show 1 < 2; decide)]
              rfl
            rw [due] at this
            exact this
        refine for_list (xs := xs) (fun i σ' H'' => H'' = HB ∧ (∃ q10 q11 q12 q13 q14 : Option V, σ' = [some (.ref p), some (.ref b), some v0, some v1, some v2, some (V.ref q), some v4, some v5, some (.int (o + 2 * l)), some (.int (o + 2 * d)), q10, q11, q12, q13, q14]) ∧ ∀ j y, j < i → xs[j]? = some y → betw y 1 600 = true) ⟨rfl, ⟨_, _, _, _, _, rfl⟩, fun j y hj _ => absurd hj (Nat.not_lt_zero _)⟩ (fun i σ' H'' _ pv => ?_) (fun i v σ' H'' hx pv => ?_) (fun σ' H'' pv => ?_)
        · obtain ⟨rfl, _⟩ := pv
          exact hq2
        · obtain ⟨rfl, ⟨q10, q11, q12, q13, q14, rfl⟩, hok⟩ := pv
          have fv := hf v (List.mem_of_getElem? hx)
          have retR : betw v 1 600 = false → Q (.str "rows") H'' := fun h => bad (by
            rw [hro, Bool.and_eq_false_iff]
            exact .inr (List.all_eq_false.mpr ⟨v, List.mem_of_getElem? hx, by rw [h]; decide⟩)) _ eB
          refine ⟨v, rfl, v, .ty "int", .type (tnD (pd v)), .type "int", isIntD (pd v), rfl, .ty _, dp_ty (dp_fl fv), kd_int, _, rfl, ?_⟩
          cases h1 : isIntD (pd v) with
          | false =>
            refine iteT (iteT (retR ?_))
            rw [← pd_betw fv]
            exact bet_not (by rw [h1]; rfl)
          | true =>
            refine iteF ⟨v, rfl, v, .ty "bool", .type (tnD (pd v)), .type "bool", isBoolD (pd v), rfl, .ty _, dp_ty (dp_fl fv), kd_bool, _, rfl, ?_⟩
            cases h2 : isBoolD (pd v) with
            | true =>
              refine iteT (iteT (retR ?_))
              rw [← pd_betw fv]
              exact bet_not (by rw [h1, h2]; rfl)
            | false =>
              refine iteF ?_
              obtain ⟨m, hm⟩ := int_yes (show (isIntD (pd v) && !isBoolD (pd v)) = true by rw [h1, h2]; rfl)
              obtain rfl : v = .int m := by
                cases v <;> first | (cases hm; rfl) | cases hm | exact fv.elim
              refine ⟨_, rfl, _, _, rfl, rfl, _, rfl, ?_⟩
              cases h3 : decide ((1 : Int) ≤ m) with
              | false =>
                refine iteF ⟨_, rfl, iteT (retR ?_)⟩
                show (decide ((1 : Int) ≤ m) && decide (m ≤ (600 : Int))) = false
                rw [h3]
                rfl
              | true =>
                refine iteT ⟨_, _, rfl, rfl, _, rfl, ?_⟩
                cases h4 : decide (m ≤ (600 : Int)) with
                | false =>
                  refine iteT (retR ?_)
                  show (decide ((1 : Int) ≤ m) && decide (m ≤ (600 : Int))) = false
                  rw [h3, h4]
                  rfl
                | true =>
                  refine iteF ?_
                  have hbt : betw (.int m) 1 600 = true := by
                    show (decide ((1 : Int) ≤ m) && decide (m ≤ (600 : Int))) = true
                    rw [h3, h4]
                    rfl
                  exact ⟨rfl, ⟨_, _, _, _, _, rfl⟩, fun j y hj hy => by
                    rcases Nat.lt_succ_iff_lt_or_eq.mp hj with hj | rfl
                    · exact hok j y hj hy
                    · rw [hx] at hy
                      cases hy
                      exact hbt⟩
        · obtain ⟨rfl, ⟨q10, q11, q12, q13, q14, rfl⟩, hok⟩ := pv
          exact ⟨_, _, _, _, _, rfl, eB, by
            rw [hro, hln, Bool.true_and, List.all_eq_true]
            intro y hy
            obtain ⟨j, hj⟩ := List.mem_iff_getElem?.mp hy
            exact hok j y (List.getElem?_eq_some_iff.mp hj).1 hj⟩
      | @tup q xs hq hf hl =>
        have hro := rowsX xs hf (.inr rfl)
        have hq' : SqT K H' q xs := SqT.of hq
        refine ⟨.ref q, rfl, by show 2 ≤ sizeLine; decide, fun pp hpp => ⟨.ref q, pp, [.ty "list", .ty "tuple"], _, [.type "list", .type "tuple"], true, rfl, upd_same, .cons (.ty _) (.cons (.ty _) .nil), dp_ty (dp_ext (Ext.upd hpp) _ _ hdp), kd_seq, _, rfl, iteF ?_⟩⟩
        have eB := e05.trans (Ext.upd (o := .tup [.ty "list", .ty "tuple"]) hpp)
        have hq2 := hq'.ext (Ext.upd (o := .tup [.ty "list", .ty "tuple"]) hpp)
        generalize upd H' pp _ = HB at eB hq2 ⊢
        refine ⟨_, rfl, q, xs, rfl, .inr hq2, _, _, rfl, rfl, _, rfl, ?_⟩
        cases h1 : decide ((1 : Int) ≤ (xs.length : Int)) with
        | false => exact iteF ⟨_, rfl, iteT (bad (by rw [hro, h1]; rfl) _ eB)⟩
        | true =>
        refine iteT ⟨_, _, rfl, rfl, _, rfl, ?_⟩
        cases h2 : decide ((xs.length : Int) ≤ 3) with
        | false => exact iteT (bad (by rw [hro, h1, h2]; rfl) _ eB)
        | true =>
        have hln : (decide ((1 : Int) ≤ (xs.length : Int)) && decide ((xs.length : Int) ≤ 3)) = true := by rw [h1, h2]; rfl
        refine iteF ⟨fun σ H' => ∃ q10 q11 q12 q13 q14 : Option V, σ = [some (.ref p), some (.ref b), some v0, some v1, some v2, some (V.ref q), some v4, some v5, some (.int (o + 2 * l)), some (.int (o + 2 * d)), q10, q11, q12, q13, q14] ∧ Ext H H' ∧ rowsD (.tuple (xs.map pd)) = true, ⟨_, rfl, q, rfl, .inr ⟨⟨_, hq2⟩, ?_⟩⟩, fun σ' H' pv => ?rest_tup⟩
        case rest_tup =>
          obtain ⟨q10, q11, q12, q13, q14, rfl, eC, hg⟩ := pv
          rw [good hg] at k
          refine ⟨_, rfl, by show 3 ≤ sizeLine; decide, fun b1 hb1 => ⟨_, rfl, by show 3 ≤ sizeLine; decide, fun b2 hb2 => ⟨by show 2 ≤ sizeLine; decide, fun bl hbl => ⟨bl, rfl, ⟨_, SqL.of upd_same⟩, ?_⟩⟩⟩⟩
          have e1 := Ext.upd (o := .lst [.str "quiet", v4, .int 500]) hb1
          have e2 := Ext.upd (o := .lst [.str "period", v5, .int 200]) hb2
          have e5 := Ext.upd (o := .lst [.ref b1, .ref b2]) hbl
          have g1 := e5 _ _ (e2 _ _ (upd_same (H := H') (a := b1) (o := .lst [.str "quiet", v4, .int 500])))
          have g2 := e5 _ _ (upd_same (H := upd H' b1 (.lst [.str "quiet", v4, .int 500])) (a := b2) (o := .lst [.str "period", v5, .int 200]))
          have gl : upd (upd (upd H' b1 (.lst [.str "quiet", v4, .int 500])) b2 (.lst [.str "period", v5, .int 200])) bl (.lst [.ref b1, .ref b2]) bl = some (.lst [.ref b1, .ref b2]) := upd_same
          have eD := ((eC.trans e1).trans e2).trans e5
          generalize upd (upd (upd H' b1 _) b2 _) bl _ = HM at g1 g2 gl eD ⊢
          let nmB : Nat → Str × V × Int := fun i => if i = 0 then ("quiet", v4, 500) else ("period", v5, 200)
          refine for_list (xs := [.ref b1, .ref b2]) (fun i σ' H'' => H'' = HM ∧ (∃ r10 r11 r12 r13 r14 : Option V, σ' = [some (.ref p), some (.ref b), some v0, some v1, some v2, some (V.ref q), some v4, some v5, some (.int (o + 2 * l)), some (.int (o + 2 * d)), r10, r11, r12, r13, r14]) ∧ ∀ j, j < i → betw (nmB j).2.1 1 (nmB j).2.2 = true) ⟨rfl, ⟨_, _, _, _, _, rfl⟩, fun j hj => absurd hj (Nat.not_lt_zero _)⟩ (fun i σ' H'' _ pv => ?_) (fun i x σ' H'' hx pv => ?_) (fun σ' H'' pv => ?_)
          · obtain ⟨rfl, _⟩ := pv
            exact SqL.of gl
          · obtain ⟨rfl, ⟨r10, r11, r12, r13, r14, rfl⟩, hok⟩ := pv
            have hi : i < 2 := (List.getElem?_eq_some_iff.mp hx).1
            obtain ⟨c, rfl, hc, fv⟩ : ∃ c, x = .ref c ∧ H'' c = some (.lst [.str (nmB i).1, (nmB i).2.1, .int (nmB i).2.2]) ∧ Fl (nmB i).2.1 := by
              match i, hi, hx with
              | 0, _, hx => cases hx; exact ⟨_, rfl, g1, f4⟩
              | 1, _, hx => cases hx; exact ⟨_, rfl, g2, f5⟩
            have ret : betw (nmB i).2.1 1 (nmB i).2.2 = false → Q (.str (nmB i).1) H'' := fun hbad => by
              have := k _ eD
              have due : (quietDue (pd v4)).or (perDue (pd v5)) = some (nmB i).1 := by
                match i, hi, hok, hbad with
                | 0, _, _, hbad =>
                  unfold quietDue
                  rw [pd_betw f4, show betw v4 1 500 = false from hbad]
                  rfl
                | 1, _, hok, hbad =>
                  unfold quietDue perDue
                  rw [pd_betw f4, pd_betw f5, show betw v4 1 500 = true from hok 0 (by omega), show betw v5 1 200 = false from hbad]
                  rfl
              rw [due] at this
              exact this
            have next : betw (nmB i).2.1 1 (nmB i).2.2 = true → ∀ j, j < i + 1 → betw (nmB j).2.1 1 (nmB j).2.2 = true := fun h j hj => by
              rcases Nat.lt_succ_iff_lt_or_eq.mp hj with hj | rfl
              · exact hok j hj
              · exact h
            clear_value nmB
            refine ⟨c, _, rfl, SqL.of hc, rfl, _, _, rfl, _, _, rfl, _, _, rfl, rfl, ?_⟩
            generalize nmB i = row at *
            obtain ⟨nm, v, hi'⟩ := row
            refine ⟨v, rfl, v, .ty "int", .type (tnD (pd v)), .type "int", isIntD (pd v), rfl, .ty _, dp_ty (dp_fl fv), kd_int, _, rfl, ?_⟩
            cases h1 : isIntD (pd v) with
            | false =>
              refine iteT (iteT ⟨_, rfl, ret ?_⟩)
              rw [← pd_betw fv]
              exact bet_not (by rw [h1]; rfl)
            | true =>
              refine iteF ⟨v, rfl, v, .ty "bool", .type (tnD (pd v)), .type "bool", isBoolD (pd v), rfl, .ty _, dp_ty (dp_fl fv), kd_bool, _, rfl, ?_⟩
              cases h2 : isBoolD (pd v) with
              | true =>
                refine iteT (iteT ⟨_, rfl, ret ?_⟩)
                rw [← pd_betw fv]
                exact bet_not (by rw [h1, h2]; rfl)
              | false =>
                refine iteF ?_
                obtain ⟨m, hm⟩ := int_yes (show (isIntD (pd v) && !isBoolD (pd v)) = true by rw [h1, h2]; rfl)
                obtain rfl : v = .int m := by
                  cases v <;> first | (cases hm; rfl) | cases hm | exact fv.elim
                refine ⟨_, rfl, _, _, rfl, rfl, _, rfl, ?_⟩
                cases h3 : decide ((1 : Int) ≤ m) with
                | false =>
                  refine iteF ⟨_, rfl, iteT ⟨_, rfl, ret ?_⟩⟩
                  show (decide ((1 : Int) ≤ m) && decide (m ≤ hi')) = false
                  rw [h3]
                  rfl
                | true =>
                  refine iteT ⟨_, rfl, _, _, rfl, rfl, _, rfl, ?_⟩
                  cases h4 : decide (m ≤ hi') with
                  | false =>
                    refine iteT ⟨_, rfl, ret ?_⟩
                    show (decide ((1 : Int) ≤ m) && decide (m ≤ hi')) = false
                    rw [h3, h4]
                    rfl
                  | true =>
                    refine iteF ?_
                    have hbt : betw (.int m) 1 hi' = true := by
                      show (decide ((1 : Int) ≤ m) && decide (m ≤ hi')) = true
                      rw [h3, h4]
                      rfl
                    exact ⟨rfl, ⟨_, _, _, _, _, rfl⟩, next hbt⟩
          · obtain ⟨rfl, ⟨r10, r11, r12, r13, r14, rfl⟩, hok⟩ := pv
            have := k _ eD
            have due : (quietDue (pd v4)).or (perDue (pd v5)) = none := by
              unfold quietDue perDue
              rw [pd_betw f4, pd_betw f5, show betw v4 1 500 = true from hok 0 (by show 0 < 2; decide), show betw v5 1 200 = true from hok 1 (by show 1 < 2; decide)]
              rfl
            rw [due] at this
            exact this
        refine for_tup (xs := xs) (fun i σ' H'' => H'' = HB ∧ (∃ q10 q11 q12 q13 q14 : Option V, σ' = [some (.ref p), some (.ref b), some v0, some v1, some v2, some (V.ref q), some v4, some v5, some (.int (o + 2 * l)), some (.int (o + 2 * d)), q10, q11, q12, q13, q14]) ∧ ∀ j y, j < i → xs[j]? = some y → betw y 1 600 = true) ⟨rfl, ⟨_, _, _, _, _, rfl⟩, fun j y hj _ => absurd hj (Nat.not_lt_zero _)⟩ (fun i σ' H'' _ pv => ?_) (fun i v σ' H'' hx pv => ?_) (fun σ' H'' pv => ?_)
        · obtain ⟨rfl, _⟩ := pv
          exact hq2
        · obtain ⟨rfl, ⟨q10, q11, q12, q13, q14, rfl⟩, hok⟩ := pv
          have fv := hf v (List.mem_of_getElem? hx)
          have retR : betw v 1 600 = false → Q (.str "rows") H'' := fun h => bad (by
            rw [hro, Bool.and_eq_false_iff]
            exact .inr (List.all_eq_false.mpr ⟨v, List.mem_of_getElem? hx, by rw [h]; decide⟩)) _ eB
          refine ⟨v, rfl, v, .ty "int", .type (tnD (pd v)), .type "int", isIntD (pd v), rfl, .ty _, dp_ty (dp_fl fv), kd_int, _, rfl, ?_⟩
          cases h1 : isIntD (pd v) with
          | false =>
            refine iteT (iteT (retR ?_))
            rw [← pd_betw fv]
            exact bet_not (by rw [h1]; rfl)
          | true =>
            refine iteF ⟨v, rfl, v, .ty "bool", .type (tnD (pd v)), .type "bool", isBoolD (pd v), rfl, .ty _, dp_ty (dp_fl fv), kd_bool, _, rfl, ?_⟩
            cases h2 : isBoolD (pd v) with
            | true =>
              refine iteT (iteT (retR ?_))
              rw [← pd_betw fv]
              exact bet_not (by rw [h1, h2]; rfl)
            | false =>
              refine iteF ?_
              obtain ⟨m, hm⟩ := int_yes (show (isIntD (pd v) && !isBoolD (pd v)) = true by rw [h1, h2]; rfl)
              obtain rfl : v = .int m := by
                cases v <;> first | (cases hm; rfl) | cases hm | exact fv.elim
              refine ⟨_, rfl, _, _, rfl, rfl, _, rfl, ?_⟩
              cases h3 : decide ((1 : Int) ≤ m) with
              | false =>
                refine iteF ⟨_, rfl, iteT (retR ?_)⟩
                show (decide ((1 : Int) ≤ m) && decide (m ≤ (600 : Int))) = false
                rw [h3]
                rfl
              | true =>
                refine iteT ⟨_, _, rfl, rfl, _, rfl, ?_⟩
                cases h4 : decide (m ≤ (600 : Int)) with
                | false =>
                  refine iteT (retR ?_)
                  show (decide ((1 : Int) ≤ m) && decide (m ≤ (600 : Int))) = false
                  rw [h3, h4]
                  rfl
                | true =>
                  refine iteF ?_
                  have hbt : betw (.int m) 1 600 = true := by
                    show (decide ((1 : Int) ≤ m) && decide (m ≤ (600 : Int))) = true
                    rw [h3, h4]
                    rfl
                  exact ⟨rfl, ⟨_, _, _, _, _, rfl⟩, fun j y hj hy => by
                    rcases Nat.lt_succ_iff_lt_or_eq.mp hj with hj | rfl
                    · exact hok j y hj hy
                    · rw [hx] at hy
                      cases hy
                      exact hbt⟩
        · obtain ⟨rfl, ⟨q10, q11, q12, q13, q14, rfl⟩, hok⟩ := pv
          exact ⟨_, _, _, _, _, rfl, eB, by
            rw [hro, hln, Bool.true_and, List.all_eq_true]
            intro y hy
            obtain ⟨j, hj⟩ := List.mem_iff_getElem?.mp hy
            exact hok j y (List.getElem?_eq_some_iff.mp hj).1 hj⟩
end
end K29

set_option Elab.async false
set_option maxRecDepth 100000
set_option maxHeartbeats 4000000
namespace K29
open PySem PySem.Spec PyProof.Rows L2
theorem cut_from {xs : List V} {k : Nat} (h : k ≤ xs.length) : cutV xs (some (k : Int)) none = xs.drop k := by
  unfold cutV
  rw [show HT.sIx xs.length xs.length none = xs.length from rfl, HT.sIx_nat, Nat.min_eq_left h, List.take_of_length_le (by simp)]
/-- a road's settings that are right, from their data -/
theorem roadDue_none {n l m : Int} {la tu lo ro qu pe : PyData} (h : roadDue n l m la tu lo ro qu pe = none) : ∃ (a b c e f : Int) (rs : List Int), la = .int a ∧ tu = .int b ∧ lo = .int c ∧ qu = .int e ∧ pe = .int f ∧ itemsD ro = some (rs.map PyData.int) ∧ RdOk n l m a b c e f rs := by
  unfold roadDue at h
  cases h1 : betD la (n + 2 * l) (n + 2 * m) with
  | false => rw [h1, if_pos rfl] at h; cases h
  | true =>
    rw [h1, if_neg (by decide)] at h
    cases h2 : lullDue2 m tu lo with
    | some s => rw [h2] at h; cases h
    | none =>
      rw [h2] at h
      have h' : rowsDue ro qu pe = none := h
      unfold rowsDue at h'
      cases h3 : rowsD ro with
      | false => rw [h3, if_pos rfl] at h'; cases h'
      | true =>
        rw [h3, if_neg (by decide)] at h'
        cases h4 : quietDue qu with
        | some s => rw [h4] at h'; cases h'
        | none =>
          rw [h4] at h'
          have h5 : perDue pe = none := h'
          unfold perDue at h5
          cases h6 : betD pe 1 200 with
          | false => rw [h6, if_pos rfl] at h5; cases h5
          | true =>
            obtain ⟨a, rfl, a1, a2⟩ := bet_yes h1
            obtain ⟨b, c, rfl, rfl, b1, b2, c1, c2⟩ := lullDue2_none h2
            obtain ⟨rs, hi, r1, r3, rr⟩ := rows_yes h3
            obtain ⟨e, rfl, e1, e2⟩ := quietDue_none h4
            obtain ⟨f, rfl, f1, f2⟩ := bet_yes h6
            exact ⟨a, b, c, e, f, rs, rfl, rfl, rfl, rfl, rfl, hi, ⟨a1, a2, b1, b2, c1, c2, r1, r3, rr, e1, e2, f1, f2⟩⟩
theorem road_word {n l m : Int} {la tu lo ro qu pe : PyData} {s : Str} (h : roadDue n l m la tu lo ro qu pe = some s) : PySem.PyData.canLay0 (.str s) = true := by
  have key : s = "last" ∨ s = "turn" ∨ s = "losses" ∨ s = "rows" ∨ s = "quiet" ∨ s = "period" := by
    unfold roadDue at h
    cases h1 : betD la (n + 2 * l) (n + 2 * m) with
    | false => rw [h1, if_pos rfl] at h; exact .inl (Option.some.inj h).symm
    | true =>
      rw [h1, if_neg (by decide)] at h
      unfold lullDue2 at h
      cases h2 : betD tu (2 * m) 200 with
      | false => rw [h2, if_pos rfl] at h; exact .inr (.inl (Option.some.inj h).symm)
      | true =>
        rw [h2, if_neg (by decide)] at h
        cases h3 : betD lo 1 3 with
        | false => rw [h3, if_pos rfl] at h; exact .inr (.inr (.inl (Option.some.inj h).symm))
        | true =>
          rw [h3, if_neg (by decide)] at h
          have h' : rowsDue ro qu pe = some s := h
          unfold rowsDue quietDue perDue at h'
          cases h4 : rowsD ro with
          | false => rw [h4, if_pos rfl] at h'; exact .inr (.inr (.inr (.inl (Option.some.inj h').symm)))
          | true =>
            rw [h4, if_neg (by decide)] at h'
            cases h5 : betD qu 1 500 with
            | false => rw [h5, if_pos rfl] at h'; exact .inr (.inr (.inr (.inr (.inl (Option.some.inj h').symm))))
            | true =>
              rw [h5, if_neg (by decide)] at h'
              cases h6 : betD pe 1 200 with
              | false => rw [h6, if_pos rfl] at h'; exact .inr (.inr (.inr (.inr (.inr (Option.some.inj h').symm))))
              | true => rw [h6, if_neg (by decide)] at h'; cases h'
  rcases key with rfl | rfl | rfl | rfl | rfl | rfl <;> decide +kernel
end K29

set_option Elab.async false
set_option maxRecDepth 100000
set_option maxHeartbeats 4000000
namespace K29
open PySem PySem.Spec PyProof.Rows L2
/-- all but lists stays -/
def KeepN (H H' : Hp) : Prop := ∀ t o, (∀ ys, o ≠ .lst ys) → H t = some o → H' t = some o
theorem keep_m {st : Addr} {H H' : Hp} (h : PoolD H st) (e : ExtM st H H') : KeepN H H' := fun t o n ht => e t o (fun z => by
  obtain ⟨a, b, hs, _⟩ := h
  rw [z, hs] at ht
  exact n _ (Option.some.inj ht).symm) ht
theorem keep_set {p : Addr} {H : Hp} {xs ys : List V} (h : H p = some (.lst xs)) : KeepN H (upd H p (.lst ys)) := fun t o n ht => by
  rw [upd_ne (fun z => by rw [z, h] at ht; exact n _ (Option.some.inj ht).symm)]
  exact ht
section
variable {K : PySem.W.Frag} {H H' : Hp}
theorem sqT_k {a : Addr} {xs : List V} (h : SqT K H a xs) (e : KeepN H H') : SqT K H' a xs := by
  rcases h with (h | ⟨o, h⟩) | h
  · exact .inl (.inl (e _ _ (fun _ z => by cases z) h))
  · exact .inl (.inr ⟨o, e _ _ (fun _ z => by cases z) h⟩)
  · exact .inr h
theorem bxs_k (e : KeepN H H') : ∀ {bs : List Bx} {xs : List V}, DpAll K H xs (bs.map bxD) → DpAll K H' xs (bs.map bxD)
  | [], _, h => by cases h; exact .nil
  | b :: bs, _, h => by
    cases h with
    | cons h1 h2 =>
      refine .cons ?_ (bxs_k e h2)
      cases h1 with
      | tup hs ha =>
        refine .tup (sqT_k hs e) ?_
        cases ha with
        | cons a1 ha =>
          cases ha with
          | cons a2 ha =>
            cases ha with
            | cons a3 ha =>
              cases ha with
              | cons a4 ha =>
                cases ha
                cases a1
                cases a2
                cases a3
                cases a4
                exact .cons (.int _) (.cons (.int _) (.cons (.int _) (.cons (.int _) .nil)))
theorem tabs_k {Ts : List (Addr × Str)} (t : LamX.Tabs Ts H) (e : KeepN H H') : LamX.Tabs Ts H' := fun p hp => by
  obtain ⟨ps, h1, h2, h3⟩ := t p hp
  refine ⟨ps, e _ _ (fun _ z => by cases z) h1, h2, fun pos cv hc => ?_⟩
  obtain ⟨c, e1, e2⟩ := h3 pos cv hc
  exact ⟨c, e1, e _ _ (fun _ z => by cases z) e2⟩
theorem MyWay.k {A : Ad} {p : Addr} {b : Option Int} {l m : Int} {bs : List Bx} (h : MyWay K A H p b l m bs) (e : KeepN H H') : MyWay K A H' p b l m bs := by
  obtain ⟨dx, T', xs, h1, h2, h3⟩ := h
  exact ⟨dx, T', xs, e _ _ (fun _ z => by cases z) h1, sqT_k h2 e, bxs_k e h3⟩
end
section
variable {P : Program} {w : World} {K : PySem.W.Frag} {mg : Str → Option Value} {base : Heap} {A : Ad}
def spRoadsRight (ts : Tb3) : Sp := fun vs H Q _ => ∃ (st pl bx ro : Addr) (xs : List V) (r : PlD), vs = [.ref st, .ref pl] ∧ PoolD H st ∧ Drawn H pl bx ro xs r ∧ PlOk r ∧ pl ≠ st ∧ bx ≠ st ∧ ro ≠ st ∧ LamX.Tabs ts.l H ∧
  ∀ H', PoolD H' st → LamX.Tabs ts.l H' → ExtT st H H' → Q (.bl true) H'
theorem ok_roadsRight {f c : Addr} {oc kV doc pm ct : Value} {od an : Option Addr} {osl : Array (Option Value)} {ts : Tb3} (lk : K.lookup f = some ⟨oc, od, .func (PySem.W.fnOf "_law_roads_right" "_law_roads_right" (defArgs s__law_roads_right) (defBody s__law_roads_right) (defScope s__law_roads_right) .none kV doc pm an (.ref c) ct), osl⟩) (hcd : PySem.W.codeIn K (.ref c) "_law_roads_right" = true)
    (TB : LamX.TabB base mg c ts.p3) (T : Txt K mg A) (D_told : DefAt K mg "_law_told" s__law_told pm__law_told) (O__law_take : Own P w K mg base CX0 "_law_take" 1 pm__law_take spTake) (O__law_one : Own P w K mg base CX0 "_law_one" 2 pm__law_one spOne) (O__law_spoilt : Own P w K mg base CX0 "_law_spoilt" 3 pm__law_spoilt (spSpoilt K)) (O__law_road_wrong : Own P w K mg base CX0 "_law_road_wrong" 1 pm__law_road_wrong (spRoadWrong K))
    (O_Way : OwnC P w K mg base (L2.CX P w) "Way" A.Way 5 pm_Way_init (spWayInit K A)) (O_Road : OwnC P w K mg base (L2.CX P w) "Road" A.Road 5 pm_Road_init (spRoadInit K A)) (O_Lull : OwnC P w K mg base (L2.CX P w) "Lull" A.Lull 5 pm_Lull_init (spLullInit K A)) (O_Lull_eq : OwnM P w K mg base CX0 A.Lull "__eq__" 1 pm_Lull_eq (spLullEq K A))
    (O_Way_eq : OwnM P w K mg base CX0 A.Way "__eq__" 1 pm_Way_eq (spWayEq K A)) (O_lull_of : Own P w K mg base CX0 "lull_of" 7 pm_lull_of (spLullOf K A)) :
    FnOk P w K mg base CX0 9 f (PySem.W.fnOf "_law_roads_right" "_law_roads_right" (defArgs s__law_roads_right) (defBody s__law_roads_right) (defScope s__law_roads_right) .none kV doc pm an (.ref c) ct) pm__law_roads_right (spRoadsRight ts) := by
  refine fn_of lk hcd sc__law_roads_right (fun vs H Q E h => ?_) (fun A' outer sh H vs Q E hr h => ?_)
  · obtain ⟨_, _, _, _, _, _, rfl, _⟩ := h
    rfl
  · obtain ⟨st, pl, bx, ro, xs, r, rfl, st0, hd, ok, npl, nbx, nro, tb0, k⟩ := h
    suffices h : ∃ t, PSs (cxOf CX0 P w K mg base nm__law_roads_right "_law_roads_right" (defScope s__law_roads_right) f (.ref c) A' outer sh H E).nox (defBody s__law_roads_right) t ∧ t { nx := fun _ H' => Q .non H', rt := Q } (start nm__law_roads_right [.ref st, .ref pl]) H by
      obtain ⟨t, h1, h2⟩ := h
      exact ⟨t, h1.nox, h2⟩
    refine ⟨_, pss_cons (ps_set (i := 2) sc__law_roads_right.nd rfl (Or.inr rfl) (pe_new O_Way (hr.mono (by decide)) passL (pa_cons (pe_ix ix_list (pv 1) (pe_int) (fun _ _ => rfl)) (pa_cons (pe_ix ix_list (pv 1) (pe_int) (fun _ _ => rfl)) (pa_cons (pe_ix ix_list (pv 1) (pe_int) (fun _ _ => rfl)) (pa_cons (pe_ix ix_list (pv 1) (pe_int) (fun _ _ => rfl)) pa_nil))))))
      (pss_cons (ps_set (i := 3) sc__law_roads_right.nd rfl (Or.inr rfl) (pe_own O__law_spoilt (hr.mono (by decide)) pass0 (pa_cons (pv 0) (pa_cons (pe_slice sl_list (pv 1) (po_some (pe_int)) po_none) pa_nil))))
      (Evl.pss_cut (ps_if (pt_cmpR op_eq (pe_own O__law_take (hr.mono (by decide)) pass0 (pa_cons (pv 0) (pa_cons (pe_int) pa_nil))) (pe_int) (nomark _)) (pss_one (ps_asg (pe_own O__law_one (hr.mono (by decide)) pass0 (pa_cons (pv 0) (pa_cons (pe_lst (pa_cons (pe_lst (pa_nil)) (pa_cons (pe_lst (pa_cons (pe_int) (pa_cons (pe_int) (pa_cons (pe_int) (pa_cons (pe_int) pa_nil))))) (pa_cons (pe_lst (pa_cons (pe_int) pa_nil)) (pa_cons (pe_lst (pa_cons (pe_int) pa_nil)) (pa_cons (pe_lst (pa_cons (pe_int) (pa_cons (pe_bl) pa_nil))) (pa_cons (pe_tup (pa_cons (pe_int) (pa_cons (pe_int) pa_nil))) (pa_cons (pe_int) (pa_cons (pe_lst (pa_cons (pe_non) pa_nil)) pa_nil))))))))) pa_nil))) (pg_sub (pv 3) (pe_int) set_list))) (pss_nil))
      (pss_cons (ps_set (i := 4) sc__law_roads_right.nd rfl (Or.inl rfl) (pe_own O__law_road_wrong (hr.mono (by decide)) pass0 (pa_cons (pv 1) (pa_cons (pv 3) pa_nil))))
      (pss_cons (ps_set (i := 5) sc__law_roads_right.nd rfl (Or.inl rfl) (pe_told (k := 6) (defScope s__law_roads_right) rfl "_law_roads_right" ts.l ts.m3 ts.u3 D_told T TB rfl rfl (hr.mono (by decide)) (fun _ _ _ _ _ _ _ hr2 => pe_newS O_Road (hr2.mono (by decide)) (takes_of rfl rfl rfl rfl) (pa_cons (pv 2) (pa_cons (pe_ix (ix_listK (K := K) rfl) (pv 3) (pe_int) (fun _ _ => rfl)) (pa_cons (pe_ix (ix_listK (K := K) rfl) (pv 3) (pe_int) (fun _ _ => rfl)) (pa_cons (pe_ix (ix_listK (K := K) rfl) (pv 3) (pe_int) (fun _ _ => rfl)) (pa_cons (pe_ix (ix_listK (K := K) rfl) (pv 3) (pe_int) (fun _ _ => rfl)) (pa_cons (pe_ix (ix_listK (K := K) rfl) (pv 3) (pe_int) (fun _ _ => rfl)) (pa_cons (pe_ix (ix_listK (K := K) rfl) (pv 3) (pe_int) (fun _ _ => rfl)) pa_nil))))))))))
      (pss_cons (ps_if (pt_cmpR op_notN (pv 4) (pe_non) (nomark _)) (pss_one (ps_ret (pe_cmpR (op_eqD hr.units) (pv 5) (pe_lst (pa_cons (pe_str) (pa_cons (pv 4) (pa_cons (pe_bl) pa_nil)))) (nomark _)))) (pss_nil))
      (Evl.pss_cut (ps_if (PW.pt (pw_or (pt_val (pe_callB call_isi (by rfl) T.n_isinstance (by decide +kernel) (pa_cons (pv 5) (pa_cons (pe_bltn (v := .ty "list") (by rfl) T.n_list (by decide +kernel) rfl) pa_nil)))) (pw_or (pt_cmpR (neO O_Way_eq T.Way.neM (hr.mono (by decide)) pass0) (pe_fld (pv 5) rfl) (pv 2) (nomark _)) (pw_or1 (pt_cmpR (op_neD hr.units) (pe_fld (pv 5) rfl) (pe_callTy call_tuple_of (by rfl) T.n_tuple (by decide +kernel) (pa_cons (pe_ix ix_list (pv 3) (pe_int) (fun _ _ => rfl)) pa_nil)) (nomark _)))))) (pss_one (ps_ret (pe_bl))) (pss_nil))
      (pss_cons (ps_if (pt_cmpR (op_neD hr.units) (pe_lst (pa_cons (pe_fld (pv 5) rfl) (pa_cons (pe_fld (pv 5) rfl) (pa_cons (pe_fld (pv 5) rfl) (pa_cons (pe_fld (pv 5) rfl) (pa_cons (pe_fld (pv 5) rfl) pa_nil)))))) (pe_op op_cat (pe_slice sl_list (pv 3) po_none (po_some (pe_int))) (pe_slice sl_list (pv 3) (po_some (pe_int)) po_none)) (nomark _)) (pss_one (ps_ret (pe_bl))) (pss_nil))
      (pss_cons (ps_set (i := 6) sc__law_roads_right.nd rfl (Or.inl rfl) (pe_own O_lull_of (hr.mono (by decide)) pass0 (pa_cons (pv 5) pa_nil)))
      (pss_cons (ps_if (pt_cmpR op_eq (pe_callB call_len_seq (by rfl) T.n_len (by decide +kernel) (pa_cons (pe_ix ix_list (pv 3) (pe_int) (fun _ _ => rfl)) pa_nil)) (pe_int) (nomark _)) (pss_one (ps_ret (pe_cmpR op_isN (pv 6) (pe_non) (nomark _)))) (pss_nil))
      (pss_one (ps_ret (pe_cmpR (eqO O_Lull_eq T.Lull.neM (hr.mono (by decide)) pass0) (pv 6) (pe_new O_Lull (hr.mono (by decide)) passL (pa_cons (pe_ix ix_list (pv 1) (pe_int) (fun _ _ => rfl)) (pa_cons (pe_ix ix_list (pv 3) (pe_int) (fun _ _ => rfl)) (pa_cons (pe_ix ix_list (pv 3) (pe_int) (fun _ _ => rfl)) (pa_cons (pe_ix ix_list (pv 3) (pe_int) (fun _ _ => rfl)) pa_nil))))) (nomark _))))))))))))), ?_⟩
    have md := ok.md
    have hp := SqL.of (K := K) hd.p
    refine ⟨_, rfl, pl, _, 0, .int r.o, rfl, rfl, hp, rfl, _, rfl, pl, _, 1, .int r.l, rfl, rfl, hp, rfl, _, rfl, pl, _, 2, .int r.d, rfl, rfl, hp, rfl, _, rfl, pl, _, 3, .ref bx, rfl, rfl, hp, rfl, fun wp dx hx hdx hne => mk_way (bo := some r.o) (bs := r.bs) (fun n hn => by cases hn; exact ⟨md.o1, md.o2⟩) ⟨md.l1, md.ld, md.d2⟩ (.inl rfl) md.b3 md.bx (.lst (SqL.of hd.bx) hd.xs.dp) hx hdx hne rfl fun H1 e1 hw => ⟨rfl, ?_⟩⟩
    have st1 := st0.ext e1
    have hpl1 := e1 _ _ hd.p
    refine ⟨_, rfl, _, rfl, _, rfl, pl, _, rfl, SqL.of hpl1, fun il hil => ?_⟩
    rw [show (4 : Int) = ((4 : Nat) : Int) from rfl, cut_from (by simp)] at *
    have e2 := Ext.upd (o := .lst [.int r.la, .int r.tu, .int r.lo, .ref ro, .int r.qu, .int r.pe]) hil
    refine ⟨st, il, [.int r.la, .int r.tu, .int r.lo, .ref ro, .int r.qu, .int r.pe], rfl, st1.ext e2, SqL.of upd_same, by simp, by simp, fun vl ys H2 hvl hyl hys nvl hvl0 st2 x2 => ?_⟩
    obtain ⟨y0, y1, y2, y3, y4, y5, rfl⟩ : ∃ y0 y1 y2 y3 y4 y5, ys = [y0, y1, y2, y3, y4, y5] := by
      match ys, hyl with
      | [y0, y1, y2, y3, y4, y5], _ => exact ⟨_, _, _, _, _, _, rfl⟩
    have f0 : Fl y0 := (hys 0 y0 rfl).elim (fun h => by cases h; trivial) id
    have f1 : Fl y1 := (hys 1 y1 rfl).elim (fun h => by cases h; trivial) id
    have f2 : Fl y2 := (hys 2 y2 rfl).elim (fun h => by cases h; trivial) id
    have f4 : Fl y4 := (hys 4 y4 rfl).elim (fun h => by cases h; trivial) id
    have f5 : Fl y5 := (hys 5 y5 rfl).elim (fun h => by cases h; trivial) id
    have e12 := e1.trans e2
    have hro2 : H2 ro = some (.lst (r.rs.map V.int)) := x2 _ _ nro (e12 _ _ hd.ro)
    obtain ⟨x3, f3⟩ : ∃ x3, ∀ H', H' ro = some (.lst (r.rs.map V.int)) → RowsV K H' y3 x3 := (hys 3 y3 rfl).elim (fun h => by
      cases h
      exact ⟨_, fun H' h => .lst h fl_ints (by rw [List.length_map]; have := ok.r3; omega)⟩) fun h => ⟨_, fun _ _ => .flat h⟩
    have tb2 := tabs_m (tb0.ext e12) (st0.ext e12) x2
    have t2 : ExtT st H H2 := (extT e12).trans (ExtM.t x2)
    have hpl2 := x2 _ _ npl (e12 _ _ hd.p)
    have hw2 : MyWay K A H2 wp (some r.o) r.l r.d r.bs := (hw.ext e2).k (keep_m (st1.ext e2) x2)
    refine ⟨fun σ H' => ∃ (z3 : V) (d3 : PyData), σ = [some (.ref st), some (.ref pl), some (.ref wp), some (.ref vl), Option.none, Option.none, Option.none] ∧ H' vl = some (.lst [y0, y1, y2, z3, y4, y5]) ∧ RowsV K H' z3 d3 ∧ PoolD H' st ∧ LamX.Tabs ts.l H' ∧ ExtT st H H' ∧ MyWay K A H' wp (some r.o) r.l r.d r.bs ∧ H' pl = some (.lst [.int r.o, .int r.l, .int r.d, .ref bx, .int r.la, .int r.tu, .int r.lo, .ref ro, .int r.qu, .int r.pe]), ?_, ?_⟩
    · refine ⟨_, rfl, st, 4, rfl, st2, by decide, by decide, fun n H3 n0 n4 st3 x3' => ⟨rfl, _, rfl, ?_⟩⟩
      have tb3 := tabs_m tb2 st2 x3'
      have t3 := t2.trans (ExtM.t x3')
      have hw3 := hw2.k (keep_m st2 x3')
      have hvl3 := x3' _ _ nvl hvl
      have hpl3 := x3' _ _ npl hpl2
      have nvp : vl ≠ pl := fun z => by rw [z, hpl2] at hvl; cases hvl
      rw [dvi]
      by_cases hn : n = 0
      · rw [decide_eq_true hn]
        refine iteT ⟨_, rfl, by show 0 ≤ sizeLine; decide, fun l0 h0 => ⟨by show 4 ≤ sizeLine; decide, fun l1 h1 => ⟨by show 1 ≤ sizeLine; decide, fun l2 h2 => ⟨by show 1 ≤ sizeLine; decide, fun l3 h3 => ⟨by show 2 ≤ sizeLine; decide, fun l4 h4 => ⟨by show 2 ≤ sizeLine; decide, fun l5 h5 => ⟨by show 1 ≤ sizeLine; decide, fun l6 h6 => ⟨by show 8 ≤ sizeLine; decide, fun lL hL => ?_⟩⟩⟩⟩⟩⟩⟩⟩
        have e0 := Ext.upd (o := .lst []) h0
        have e1' := Ext.upd (o := .lst [.int 1, .int 2, .int 3, .int 4]) h1
        have e2' := Ext.upd (o := .lst [.int 0]) h2
        have e3 := Ext.upd (o := .lst [.int 601]) h3
        have e4 := Ext.upd (o := .lst [.int 1, .bl true]) h4
        have e5 := Ext.upd (o := .tup [.int 600, .int 1]) h5
        have e6 := Ext.upd (o := .lst [.non]) h6
        have eL := Ext.upd (o := .lst [.ref l0, .ref l1, .ref l2, .ref l3, .ref l4, .ref l5, .int 5, .ref l6]) hL
        have e0L := ((((((e0.trans e1').trans e2').trans e3).trans e4).trans e5).trans e6).trans eL
        have stL := st3.ext e0L
        have g0 := eL _ _ (e6 _ _ (e5 _ _ (e4 _ _ (e3 _ _ (e2' _ _ (e1' _ _ (upd_same (H := H3) (a := l0) (o := .lst []))))))))
        refine ⟨st, lL, [.ref l0, .ref l1, .ref l2, .ref l3, .ref l4, .ref l5, .int 5, .ref l6], rfl, stL, upd_same, (st3.ext ((((((e0.trans e1').trans e2').trans e3).trans e4).trans e5).trans e6)).new hL, by simp, by simp, fun ix v H5 hv st5 x5 => ?_⟩
        have hvl5 := x5 _ _ nvl (e0L _ _ hvl3)
        have hpl5 := x5 _ _ npl (e0L _ _ hpl3)
        have neS : ∀ (HX : Hp) (u : Addr), Ext H3 HX → HX u = none → u ≠ st ∧ u ≠ vl := fun HX u e h => ⟨(st3.ext e).new h, fun z => by rw [z, e _ _ hvl3] at h; cases h⟩
        have n0' := neS _ _ Ext.rfl' h0
        have n1' := neS _ _ e0 h1
        have n2' := neS _ _ (e0.trans e1') h2
        have n3' := neS _ _ ((e0.trans e1').trans e2') h3
        have n4' := neS _ _ (((e0.trans e1').trans e2').trans e3) h4
        have n5' := neS _ _ ((((e0.trans e1').trans e2').trans e3).trans e4) h5
        have n6' := neS _ _ (((((e0.trans e1').trans e2').trans e3).trans e4).trans e5) h6
        have g1 := eL _ _ (e6 _ _ (e5 _ _ (e4 _ _ (e3 _ _ (e2' _ _ (upd_same (H := _) (a := l1) (o := .lst [.int 1, .int 2, .int 3, .int 4])))))))
        have g2 := eL _ _ (e6 _ _ (e5 _ _ (e4 _ _ (e3 _ _ (upd_same (H := _) (a := l2) (o := .lst [.int 0]))))))
        have g3 := eL _ _ (e6 _ _ (e5 _ _ (e4 _ _ (upd_same (H := _) (a := l3) (o := .lst [.int 601])))))
        have g4 := eL _ _ (e6 _ _ (e5 _ _ (upd_same (H := _) (a := l4) (o := .lst [.int 1, .bl true]))))
        have g5 := eL _ _ (e6 _ _ (upd_same (H := _) (a := l5) (o := .tup [.int 600, .int 1])))
        have g6 := eL _ _ (upd_same (H := _) (a := l6) (o := .lst [.non]))
        have fl1 : ∀ ns : List Int, ∀ y ∈ ns.map V.int, Fl y := fun ns => fl_ints
        obtain ⟨d3, hd3⟩ : ∃ d3, RowsV K (upd H5 vl (.lst [y0, y1, y2, v, y4, y5])) v d3 := by
          have hm := List.mem_of_getElem? hv
          simp only [List.mem_cons, List.not_mem_nil, or_false] at hm
          rcases hm with rfl | rfl | rfl | rfl | rfl | rfl | rfl | rfl
          · exact ⟨_, .lst (by rw [upd_ne n0'.2]; exact x5 _ _ n0'.1 g0) (fun y hy => absurd hy (by simp)) (by simp)⟩
          · exact ⟨_, .lst (by rw [upd_ne n1'.2]; exact x5 _ _ n1'.1 g1) (fl1 [1, 2, 3, 4]) (by simp)⟩
          · exact ⟨_, .lst (by rw [upd_ne n2'.2]; exact x5 _ _ n2'.1 g2) (fl1 [0]) (by simp)⟩
          · exact ⟨_, .lst (by rw [upd_ne n3'.2]; exact x5 _ _ n3'.1 g3) (fl1 [601]) (by simp)⟩
          · exact ⟨_, .lst (by rw [upd_ne n4'.2]; exact x5 _ _ n4'.1 g4) (fun y hy => by simp only [List.mem_cons, List.not_mem_nil, or_false] at hy; rcases hy with rfl | rfl <;> trivial) (by simp)⟩
          · exact ⟨_, .tup (by rw [upd_ne n5'.2]; exact x5 _ _ n5'.1 g5) (fl1 [600, 1]) (by simp)⟩
          · exact ⟨_, .flat trivial⟩
          · exact ⟨_, .lst (by rw [upd_ne n6'.2]; exact x5 _ _ n6'.1 g6) (fun y hy => by rw [List.mem_singleton.mp hy]; trivial) (by simp)⟩
        have kp := keep_set (ys := [y0, y1, y2, v, y4, y5]) hvl5
        refine ⟨_, rfl, vl, _, 3, 3, rfl, rfl, hvl5, rfl, v, d3, rfl, upd_same, hd3, ?_, tabs_k (tabs_m (tb3.ext e0L) stL x5) kp, ?_, ((hw3.ext e0L).k (keep_m stL x5)).k kp, by rw [upd_ne nvp.symm]; exact hpl5⟩
        · obtain ⟨a, b, hs, hh⟩ := st5
          exact ⟨a, b, by rw [upd_ne nvl.symm]; exact hs, hh⟩
        · exact fun u o hu hno ho => by
            rw [upd_ne (fun z => by rw [z] at ho; have := (e12 _ _ ho).symm.trans hvl0; cases this)]
            exact ((t3.trans (extT e0L)).trans (ExtM.t x5)) u o hu hno ho
      · rw [decide_eq_false hn]
        exact iteF ⟨y3, x3, rfl, hvl3, f3 _ (x3' _ _ nro hro2), st3, tb3, t3, hw3, hpl3⟩
    · rintro σ H3 ⟨z3, d3, rfl, hvl3, f3', st3, tb3, t3, hw3, hpl3⟩
      refine ⟨_, rfl, _, rfl, pl, vl, r.o, r.l, r.d, _, y0, y1, y2, z3, y4, y5, d3, rfl, hpl3, by have := md.l1; have := md.ld; omega, hvl3, f0, f1, f2, f3', f4, f5, fun H4 e4 => ?_⟩
      have st4 := st3.ext e4
      have tb4 := tb3.ext e4
      have t4 := t3.trans (extT e4)
      have hvl4 := e4 _ _ hvl3
      have hw4 := hw3.ext e4
      refine ⟨tb4, fun H5 e5 tb5 => ?_⟩
      have hV := SqL.of (K := K) (e5 _ _ hvl4 nT_lst)
      refine ⟨_, rfl, _, rfl, vl, _, 0, y0, rfl, rfl, hV, rfl, _, rfl, vl, _, 1, y1, rfl, rfl, hV, rfl, _, rfl, vl, _, 2, y2, rfl, rfl, hV, rfl, _, rfl, vl, _, 3, z3, rfl, rfl, hV, rfl, _, rfl, vl, _, 4, y4, rfl, rfl, hV, rfl, _, rfl, vl, _, 5, y5, rfl, rfl, hV, rfl, fun x dx2 hx2 hdx2 hne2 => ?_⟩
      have e6 := (Ext.upd (o := .own x) hdx2).upd' (o := .ins A.Road dx2 []) (by rw [upd_ne hne2.symm]; exact hx2)
      have hw6 := (hw4.n e5).ext e6
      have f36 := (f3'.to (extN e4)).to e5
      refine ⟨x, dx2, _, _, _, _, _, _, _, pd y0, pd y1, pd y2, d3, pd y4, pd y5, rfl, upd_same, dp_fl f0, dp_fl f1, dp_fl f2, dp_ext e6 _ _ f36.dp, dp_fl f4, dp_fl f5, .inr ⟨wp, some r.o, r.l, r.d, r.bs, rfl, hw6, (fun h => nomatch h), fun n hn => ?_⟩⟩
      cases hn
      refine ⟨fun s hs H7 e7 e he => ?_, fun hdue a b c' q1 q2 rs i0 i1 i2 i4 i5 hit H7 hr7 hB => ⟨rfl, ?_⟩⟩
      · refine ⟨rfl, e, _, rfl, upd_same, fun rr H8 e8 hr8 => ?_⟩
        have e58 : Ext H5 H8 := ((e6.trans e7).trans (Ext.upd he)).trans e8
        rw [hs]
        refine ⟨_, rfl, rfl, _, rfl, ?_⟩
        rw [show (!decide (sV (some s) = V.non)) = true from by rw [decide_eq_false (fun h => by cases h)]; rfl]
        refine iteT ⟨_, rfl, _, rfl, by show 3 ≤ sizeLine; decide, fun l8 hl8 => ?_⟩
        have fw := fl_part (v := .str s) (road_word hs)
        refine eqD_lst (SqL.of (Ext.upd hl8 _ _ hr8)) (SqL.of upd_same) fw fw ?_
        show Q (.bl (PyData.eqvAll ([V.str "part", .str s, .bl true].map pd) ([V.str "part", .str s, .bl true].map pd))) _
        rw [eqv_same fw]
        have e59 := e58.trans (Ext.upd (o := .lst [.str "part", .str s, .bl true]) hl8)
        exact k _ ((st4.n e5).ext e59) (tb5.ext e59) ((t4.trans (extNt e5)).trans (extT e59))
      · obtain ⟨a', b', c'', e', f', rs', j0, j1, j2, j4, j5, jit, rok⟩ := roadDue_none hdue
        rw [i0] at j0
        rw [i1] at j1
        rw [i2] at j2
        rw [i4] at j4
        rw [i5] at j5
        rw [hit] at jit
        cases j0
        cases j1
        cases j2
        cases j4
        cases j5
        have hrs : rs' = rs := ((List.map_inj_right (fun a b h => by cases h; rfl)).mp (Option.some.inj jit)).symm
        subst hrs
        obtain rfl := pd_int i0 f0
        obtain rfl := pd_int i1 f1
        obtain rfl := pd_int i2 f2
        obtain rfl := pd_int i4 f4
        obtain rfl := pd_int i5 f5
        have e57 : Ext H5 H7 := fun u o h => hB u o (ne_of_none h hx2) (e6 u o h)
        have st7 := (st4.n e5).ext e57
        have tb7 := tb5.ext e57
        have t7 := (t4.trans (extNt e5)).trans (extT e57)
        have hv7 := e57 _ _ (e5 _ _ hvl4 nT_lst)
        have hw7 := (hw4.n e5).ext e57
        have hpl7 := e57 _ _ (e5 _ _ (e4 _ _ hpl3) nT_lst)
        have f37 := f36.to (extN e57)
        rw [hdue]
        refine ⟨_, rfl, rfl, _, rfl, ?_⟩
        rw [show (!decide (sV none = V.non)) = false from by rw [show decide (sV none = V.non) = true from decide_eq_true rfl]; rfl]
        refine iteF ?_
        obtain ⟨dR, TR, hiR, hTR⟩ := id hr7
        obtain ⟨dw, Tw, ws, hwp, _, _⟩ := id hw7
        refine ⟨fun σ H' => σ = [some (.ref st), some (.ref pl), some (.ref wp), some (.ref vl), some (sV none), some (.ref x), Option.none] ∧ Ext H7 H', ?_, ?_⟩
        · refine ⟨_, rfl, _, .ty "list", .ref A.Road, .type "list", false, rfl, .ty _, T.Road.tyOf hiR, T.Road.kLst, _, rfl, iteF ?_⟩
          refine ⟨_, rfl, x, A.Road, dR, _, _, rfl, hiR, T.Road.cl, T.r_way, rfl, _, rfl, wp, dw, _, .ref A.Way, rfl, hwp, T.Way.tyOf hwp, T.Way.nfMe, wp, some r.o, r.l, r.d, r.bs, _, rfl, hw7, .inl ⟨wp, some r.o, r.l, r.d, r.bs, rfl, hw7, _, rfl, _, rfl, ?_⟩⟩
          rw [decide_eq_true ⟨rfl, rfl, rfl, rfl⟩]
          refine iteF ⟨_, rfl, x, A.Road, dR, _, _, rfl, hiR, T.Road.cl, T.r_rows, rfl, _, rfl, vl, _, 3, z3, rfl, rfl, SqL.of hv7, rfl, ?_⟩
          cases f37 with
          | flat h => cases z3 <;> first | (cases hit) | exact h.elim
          | @lst q xs hq hf hl =>
            have hxs : xs = rs'.map V.int := dp_ints (K := K) (H := H7) (by rw [← Option.some.inj hit]; exact dp_all hf)
            subst hxs
            refine ⟨q, _, rfl, .inl ⟨SqL.of hq, fun t ht => ?_⟩⟩
            have et := Ext.upd (o := .tup (rs'.map V.int)) ht
            refine neD_tup (hTR.ext et) (SqT.of upd_same) fl_ints fl_ints ⟨_, rfl, ?_⟩
            rw [eqv_ints, decide_eq_true rfl]
            exact iteF ⟨rfl, et⟩
          | @tup q xs hq hf hl =>
            have hxs : xs = rs'.map V.int := dp_ints (K := K) (H := H7) (by rw [← Option.some.inj hit]; exact dp_all hf)
            subst hxs
            refine ⟨q, _, rfl, .inr ⟨SqT.of hq, ?_⟩⟩
            refine neD_tup hTR (SqT.of hq) fl_ints fl_ints ⟨_, rfl, ?_⟩
            rw [eqv_ints, decide_eq_true rfl]
            exact iteF ⟨rfl, Ext.rfl'⟩
        · rintro σ H8 ⟨rfl, e8⟩
          have st8 := st7.ext e8
          have tb8 := tb7.ext e8
          have t8 := t7.trans (extT e8)
          have hv8 := e8 _ _ hv7
          have hpl8 := e8 _ _ hpl7
          have hi8 := e8 _ _ hiR
          refine ⟨_, rfl, x, A.Road, dR, _, _, rfl, hi8, T.Road.cl, T.r_last, rfl, _, rfl, x, A.Road, dR, _, _, rfl, hi8, T.Road.cl, T.r_turn, rfl, _, rfl, x, A.Road, dR, _, _, rfl, hi8, T.Road.cl, T.r_losses, rfl, _, rfl, x, A.Road, dR, _, _, rfl, hi8, T.Road.cl, T.r_quiet, rfl, _, rfl, x, A.Road, dR, _, _, rfl, hi8, T.Road.cl, T.r_period, rfl, by show 5 ≤ sizeLine; decide, fun g1 hg1 => ?_⟩
          have k1 := Ext.upd (o := .lst ([a, b, c', q1, q2].map V.int)) hg1
          refine ⟨_, rfl, _, rfl, vl, _, rfl, SqL.of (k1 _ _ hv8), fun g2 hg2 => ?_⟩
          have k2 := Ext.upd (o := .lst ([a, b, c'].map V.int)) hg2
          refine ⟨_, rfl, _, rfl, vl, _, rfl, SqL.of (k2 _ _ (k1 _ _ hv8)), fun g3 hg3 => ?_⟩
          have k3 := Ext.upd (o := .lst ([q1, q2].map V.int)) hg3
          refine ⟨g2, g3, [a, b, c'].map V.int, [q1, q2].map V.int, rfl, rfl, k3 _ _ upd_same, upd_same, by show 5 ≤ sizeLine; decide, fun g4 hg4 => ?_⟩
          have k4 := Ext.upd (o := .lst ([a, b, c', q1, q2].map V.int)) hg4
          refine neD_lst (vs := [a, b, c', q1, q2].map V.int) (us := [a, b, c', q1, q2].map V.int) (SqL.of (k4 _ _ (k3 _ _ (k2 _ _ upd_same)))) (SqL.of upd_same) fl_ints fl_ints ⟨_, rfl, ?_⟩
          rw [eqv_ints, decide_eq_true rfl]
          refine iteF ?_
          have kk := ((k1.trans k2).trans k3).trans k4
          have st9 := st8.ext kk
          have tb9 := tb8.ext kk
          have t9 := t8.trans (extT kk)
          have hv9 := kk _ _ hv8
          have hpl9 := kk _ _ hpl8
          have rd9 := (show RdAt K A H7 x ⟨some r.o, r.l, r.d, r.bs, a, b, c', rs', q1, q2⟩ from ⟨wp, hr7, hw7⟩).ext (e8.trans kk)
          obtain ⟨q, rfl, hq⟩ : ∃ q, z3 = .ref q ∧ ∀ H', Ext H7 H' → (SqL K H' q (rs'.map V.int) ∨ SqT K H' q (rs'.map V.int)) := by
            cases f37 with
            | flat h => cases z3 <;> first | (cases hit) | exact h.elim
            | @lst q xs hq hf hl =>
              have hxs : xs = rs'.map V.int := dp_ints (K := K) (H := H7) (by rw [← Option.some.inj hit]; exact dp_all hf)
              subst hxs
              exact ⟨q, rfl, fun H' e => .inl (SqL.of (e _ _ hq))⟩
            | @tup q xs hq hf hl =>
              have hxs : xs = rs'.map V.int := dp_ints (K := K) (H := H7) (by rw [← Option.some.inj hit]; exact dp_all hf)
              subst hxs
              exact ⟨q, rfl, fun H' e => .inr (SqT.of (e _ _ hq))⟩
          have e79 := e8.trans kk
          refine ⟨_, rfl, x, ⟨some r.o, r.l, r.d, r.bs, a, b, c', rs', q1, q2⟩, rfl, rd9, by show 1 ≤ r.d; have := md.l1; have := md.ld; omega, md.d2, rok.t1, rok.t2, rok.l1, rok.l2, rok.q1, rok.q2, fun h1 => ?_, fun hne q' HA eA hlA => ?_⟩
          · refine ⟨_, rfl, vl, _, 3, .ref q, rfl, rfl, SqL.of hv9, rfl, q, _, rfl, hq _ e79, rfl, _, rfl, ?_⟩
            rw [dvi, List.length_map, decide_eq_true (by have : rs'.length = 1 := h1; omega)]
            refine iteT ⟨_, rfl, rfl, ?_⟩
            rw [decide_eq_true rfl]
            exact k _ st9 tb9 t9
          · refine ⟨_, rfl, vl, _, 3, .ref q, rfl, rfl, SqL.of (eA _ _ hv9), rfl, q, _, rfl, hq _ (e79.trans eA), rfl, _, rfl, ?_⟩
            rw [dvi, List.length_map, decide_eq_false (by have : rs'.length ≠ 1 := hne; omega)]
            have hvA := SqL.of (K := K) (eA _ _ hv9)
            refine iteF ⟨_, rfl, _, rfl, pl, _, 2, .int r.d, rfl, rfl, SqL.of (eA _ _ hpl9), rfl, _, rfl, vl, _, 1, .int b, rfl, rfl, hvA, rfl, _, rfl, vl, _, 2, .int c', rfl, rfl, hvA, rfl, _, rfl, vl, _, 4, .int q1, rfl, rfl, hvA, rfl, fun x9 dx9 hx9 hdx9 hne9 => mk_lull (lullDue_ok (by have := md.l1; have := md.ld; omega) md.d2 rok.t1 rok.t2 rok.l1 rok.l2 rok.q1 rok.q2) hx9 hdx9 hne9 rfl fun HB eB hlB => ⟨rfl, ?_⟩⟩
            have hlA' := hlA.ext eB
            obtain ⟨dm, him⟩ := id hlA'
            obtain ⟨dm2, him2⟩ := id hlB
            refine ⟨q', dm, _, .ref A.Lull, rfl, him, T.Lull.tyOf him2, T.Lull.nfMe, q', r.d, b, c', q1, _, rfl, hlA', .inl ⟨x9, r.d, b, c', q1, rfl, hlB, _, rfl, ?_⟩⟩
            rw [decide_eq_true ⟨rfl, rfl, rfl, rfl⟩]
            have eAB := eA.trans eB
            exact k _ (st9.ext eAB) (tb9.ext eAB) (t9.trans (extT eAB))
end
end K29

set_option Elab.async false
set_option maxRecDepth 100000
set_option maxHeartbeats 4000000
namespace K29
open PySem PySem.Spec PyProof.Rows L2
theorem extn_st {st : Addr} {H0 H1 H2 : Hp} (e : LamX.ExtN H0 H1) (h0 : H0 st = none) (x : ExtT st H1 H2) : LamX.ExtN H0 H2 := fun b o hb n => x b o (ne_of_none hb h0) n (e b o hb n)
theorem none_n {H0 H1 : Hp} {a : Addr} (e : Ext H0 H1) (h : H1 a = none) : H0 a = none := by
  cases q : H0 a with
  | none => rfl
  | some u =>
    rw [e _ _ q] at h
    cases h
theorem Drawn.t {H H' : Hp} {st p bx ro : Addr} {xs : List V} {r : PlD} (d : Drawn H p bx ro xs r) (po : PoolD H st) (np : p ≠ st) (nbx : bx ≠ st) (nro : ro ≠ st) (e : ExtT st H H') : Drawn H' p bx ro xs r := by
  refine ⟨e _ _ np nT_lst d.p, e _ _ nbx nT_lst d.bx, BxAt.to (fun t zs h => e _ _ (fun z => ?_) nT_tup h) d.xs, e _ _ nro nT_lst d.ro⟩
  obtain ⟨a, b, hs, _⟩ := po
  rw [z, hs] at h
  cases h
theorem Drawn.n {H H' : Hp} {p bx ro : Addr} {xs : List V} {r : PlD} (d : Drawn H p bx ro xs r) (e : LamX.ExtN H H') : Drawn H' p bx ro xs r :=
  ⟨e _ _ d.p nT_lst, e _ _ d.bx nT_lst, BxAt.to (fun t zs h => e _ _ h nT_tup) d.xs, e _ _ d.ro nT_lst⟩
theorem RdAt.k {K : PySem.W.Frag} {A : Ad} {H H' : Hp} {p : Addr} {r : RdD} (h : RdAt K A H p r) (e : KeepN H H') : RdAt K A H' p r := by
  obtain ⟨wp, ⟨dx, T, h1, h2⟩, h3⟩ := h
  exact ⟨wp, ⟨dx, T, e _ _ (fun _ z => by cases z) h1, sqT_k h2 e⟩, h3.k e⟩
/-- nothing but a table -/
def NoT (H : Hp) (a : Addr) : Prop := ∀ u, H a = some u → ∃ ps, u = .tbl ps
theorem NoT.of {H : Hp} {a : Addr} (h : H a = none) : NoT H a := fun u hu => by
  rw [h] at hu
  cases hu
theorem NoT.back {H0 H : Hp} {a : Addr} (e : LamX.ExtN H0 H) (h : H a = none) : NoT H0 a := fun u hu => by
  by_cases n : ∃ ps, u = .tbl ps
  · exact n
  · rw [e _ _ hu fun ps z => n ⟨ps, z⟩] at h
    cases h
theorem extn_set {H0 H : Hp} {a : Addr} {o : HO} (e : LamX.ExtN H0 H) (h0 : NoT H0 a) : LamX.ExtN H0 (upd H a o) := fun b u hb n => by
  rw [upd_ne (fun z => by
    rw [z] at hb
    obtain ⟨ps, h⟩ := h0 u hb
    exact n ps h)]
  exact e b u hb n
theorem BxAt.get {H : Hp} : ∀ {vs : List V} {qs : List Bx} {i : Nat} {v : V}, BxAt H vs qs → vs[i]? = some v → ∃ t q, qs[i]? = some q ∧ v = .ref t ∧ H t = some (.tup [.int q.1, .int q.2.1, .int q.2.2.1, .int q.2.2.2])
  | _ :: _, q :: _, 0, _, ⟨⟨t, h1, h2⟩, _⟩, hv => by
    cases hv
    exact ⟨t, q, rfl, h1, h2⟩
  | _ :: _, _ :: _, i + 1, _, ⟨_, h⟩, hv => BxAt.get (i := i) h hv
  | [], [], _, _, _, hv => nomatch hv
  | [], _ :: _, _, _, h, _ => h.elim
  | _ :: _, [], _, _, h, _ => h.elim
/-- what is kept while the law looks at one road -/
structure Gd (K : PySem.W.Frag) (A : Ad) (ts : Tb3) (st p bx ro rw q : Addr) (xs : List V) (r : PlD) (H0 H : Hp) : Prop where
  d : Drawn H p bx ro xs r
  q : RdAt K A H q (rdOf r)
  w : H rw = some (.lst (r.rs.map V.int))
  po : PoolD H st
  tb : LamX.Tabs ts.l H
  e : LamX.ExtN H0 H
  np : p ≠ st
  nbx : bx ≠ st
  nro : ro ≠ st
  nrw : rw ≠ st
  nwr : rw ≠ ro
  h0 : H0 st = none
section
variable {K : PySem.W.Frag} {A : Ad} {ts : Tb3} {st p bx ro rw q : Addr} {xs : List V} {r : PlD} {H0 H H' : Hp}
theorem Gd.ext (g : Gd K A ts st p bx ro rw q xs r H0 H) (e : Ext H H') : Gd K A ts st p bx ro rw q xs r H0 H' := ⟨g.d.n (extN e), g.q.ext e, e _ _ g.w, g.po.ext e, g.tb.ext e, g.e.trans (extN e), g.np, g.nbx, g.nro, g.nrw, g.nwr, g.h0⟩
theorem Gd.m (g : Gd K A ts st p bx ro rw q xs r H0 H) (e : ExtM st H H') (po : PoolD H' st) : Gd K A ts st p bx ro rw q xs r H0 H' := ⟨g.d.t g.po g.np g.nbx g.nro (ExtM.t e), g.q.k (keep_m g.po e), e _ _ g.nrw g.w, po, tabs_m g.tb g.po e, extn_st g.e g.h0 (ExtM.t e), g.np, g.nbx, g.nro, g.nrw, g.nwr, g.h0⟩
/-- another list is set -/
theorem Gd.set (g : Gd K A ts st p bx ro rw q xs r H0 H) {o : Addr} {zs ys : List V} (ho : H o = some (.lst zs)) (h0 : NoT H0 o) (n1 : o ≠ p) (n2 : o ≠ bx) (n3 : o ≠ ro) (n4 : o ≠ rw) (n5 : o ≠ st) : Gd K A ts st p bx ro rw q xs r H0 (upd H o (.lst ys)) := by
  have kk := keep_set (ys := ys) ho
  refine ⟨⟨by rw [upd_ne n1.symm]; exact g.d.p, by rw [upd_ne n2.symm]; exact g.d.bx, BxAt.to (fun t zs h => kk _ _ (fun _ z => by cases z) h) g.d.xs, by rw [upd_ne n3.symm]; exact g.d.ro⟩, g.q.k kk, by rw [upd_ne n4.symm]; exact g.w, ?_, tabs_k g.tb kk, extn_set g.e h0, g.np, g.nbx, g.nro, g.nrw, g.nwr, g.h0⟩
  obtain ⟨a, b, hs, hb⟩ := g.po
  exact ⟨a, b, by rw [upd_ne n5.symm]; exact hs, hb⟩
end
def Chg (n : Int) (r r2 : PlD) : Prop := (n = 1 ∧ r2 = { r with lo := r.lo + 1 }) ∨ (n ≠ 1 ∧ MdOk r2 ∧ rdOf r2 ≠ rdOf r)
theorem chg0 {r : PlD} (ok : PlOk r) : Chg 0 r { r with tu := r.tu + 1 } := .inr ⟨by decide, { ok.md with ok := { ok.md.ok with t1 := by have := ok.t1; show 2 * r.d ≤ r.tu + 1; omega, t2 := by have := ok.t2; show r.tu + 1 ≤ 200; omega } }, fun h => by
  have z : r.tu + 1 = r.tu := congrArg RdD.tu h
  omega⟩
theorem chg3 {r : PlD} (ok : PlOk r) : Chg 3 r { r with qu := r.qu + 1 } := .inr ⟨by decide, { ok.md with ok := { ok.md.ok with q1 := by have := ok.q1; show 1 ≤ r.qu + 1; omega, q2 := by have := ok.q2; show r.qu + 1 ≤ 500; omega } }, fun h => by
  have z : r.qu + 1 = r.qu := congrArg RdD.qu h
  omega⟩
theorem chg4 {r : PlD} (ok : PlOk r) : Chg 4 r { r with pe := r.pe + 1 } := .inr ⟨by decide, { ok.md with ok := { ok.md.ok with p1 := by have := ok.p1; show 1 ≤ r.pe + 1; omega, p2 := by have := ok.p2; show r.pe + 1 ≤ 200; omega } }, fun h => by
  have z : r.pe + 1 = r.pe := congrArg RdD.pe h
  omega⟩
theorem chg2 {r : PlD} (ok : PlOk r) {rs : List Int} (h1 : 1 ≤ rs.length) (h3 : rs.length ≤ 3) (hr : ∀ y ∈ rs, 1 ≤ y ∧ y ≤ 600) (hne : rs.length ≠ r.rs.length) : Chg 2 r { r with rs := rs } := .inr ⟨by decide, { ok.md with ok := { ok.md.ok with r1 := h1, r3 := h3, rr := hr } }, fun h => by
  have z : rs = r.rs := congrArg RdD.rs h
  exact hne (by rw [z])⟩
theorem chg1 {r : PlD} (ok : PlOk r) : MdOk { r with lo := r.lo % 3 + 1 } ∧ rdOf { r with lo := r.lo % 3 + 1 } ≠ rdOf r := by
  have h0 : 0 ≤ r.lo % 3 := Int.emod_nonneg _ (by decide)
  have h1 : r.lo % 3 < 3 := Int.emod_lt_of_pos _ (by decide)
  refine ⟨{ ok.md with ok := { ok.md.ok with l1 := by show 1 ≤ r.lo % 3 + 1; omega, l2 := by show r.lo % 3 + 1 ≤ 3; omega } }, fun h => ?_⟩
  have z : r.lo % 3 + 1 = r.lo := congrArg RdD.lo h
  have := ok.s1
  have := ok.s2
  omega
theorem bx_ro {H : Hp} {p bx ro : Addr} {xs : List V} {r : PlD} (d : Drawn H p bx ro xs r) (ok : PlOk r) : bx ≠ ro := fun h => by
  have h1 := d.bx
  rw [h, d.ro] at h1
  have h2 : r.rs.map V.int = xs := by
    have := Option.some.inj h1
    injection this
  have h3 := d.xs
  rw [← h2] at h3
  have := ok.r1
  cases hr : r.rs with
  | nil => rw [hr] at this; exact absurd this (by decide)
  | cons a l =>
    rw [hr] at h3
    cases hb : r.bs with
    | nil => rw [hb] at h3; exact h3
    | cons b m =>
      rw [hb] at h3
      obtain ⟨⟨t, z, _⟩, _⟩ := h3
      cases z
theorem p_ro {H : Hp} {p bx ro : Addr} {xs : List V} {r : PlD} (d : Drawn H p bx ro xs r) (ok : PlOk r) : p ≠ ro := fun h => by
  have h1 := d.p
  rw [h, d.ro] at h1
  have h2 := Option.some.inj h1
  injection h2 with h2
  have h3 := congrArg List.length h2
  rw [List.length_map] at h3
  have := ok.r3
  have h4 : r.rs.length = 10 := h3
  omega
def spLawL (K : PySem.W.Frag) (PS : List Addr) : Sp := fun vs H Q _ => ∃ (a : Addr) (ns : List Int), vs = [.ref a] ∧ SqL K H a (ns.map V.int) ∧ ns.length ≤ 63 ∧ (∀ P ∈ PS, H P = some (.tbl #[])) ∧ ∀ H', Q (.bl true) H'
section
variable {P : Program} {w : World} {K : PySem.W.Frag} {mg : Str → Option Value} {base : Heap} {A : Ad}
theorem road_bad {H : Hp} {x dx l1 : Addr} {v : V} {xw : Addr} {Q' : VK} {E' : XK} (hx : H x = some (.ins A.Road dx [])) (hv : (∃ e, Dp K H v e) ∨ (v = .ref xw ∧ MyWay K A H xw none 1 1 [])) (hl : SqL K H l1 [.int 1]) {vs : List V} (hvs : vs = [.ref x, v, .int 2, .int 2, .int 1, .ref l1, .int 1, .int 1]) (herr : ErrP A H E' "way") : spRoadInit K A vs H Q' E' := by
  refine ⟨x, dx, v, _, _, _, _, _, _, .int 2, .int 2, .int 1, .list [.int 1], .int 1, .int 1, hvs, hx, .int 2, .int 2, .int 1, .lst hl (.cons (.int 1) .nil), .int 1, .int 1, ?_⟩
  rcases hv with ⟨e, he⟩ | ⟨rfl, hw⟩
  · exact .inl ⟨e, he, herr⟩
  · exact .inr ⟨xw, none, 1, 1, [], rfl, hw, fun _ => herr, fun n hn => nomatch hn⟩
theorem ok_law {f c : Addr} {oc kV doc pm ct : Value} {od an : Option Addr} {osl : Array (Option Value)} {ts : Tb3} {PS : List Addr} (hPS : ∀ p ∈ ts.l, p.1 ∈ PS) (lk : K.lookup f = some ⟨oc, od, .func (PySem.W.fnOf "law" "law" (defArgs s_law) (defBody s_law) (defScope s_law) .none kV doc pm an (.ref c) ct), osl⟩) (hcd : PySem.W.codeIn K (.ref c) "law" = true)
    (TB : LamX.TabB base mg c ts.p1) (T : Txt K mg A) (D_told : DefAt K mg "_law_told" s__law_told pm__law_told) (O__law_pool : Own P w K mg base CX0 "_law_pool" 1 pm__law_pool (spPool K)) (O__law_take : Own P w K mg base CX0 "_law_take" 1 pm__law_take spTake) (O__law_road : Own P w K mg base CX0 "_law_road" 2 pm__law_road spRoadDraw)
    (O__law_lulls_right : Own P w K mg base CX0 "_law_lulls_right" 9 pm__law_lulls_right (spLullsRight ts)) (O__law_roads_right : Own P w K mg base CX0 "_law_roads_right" 9 pm__law_roads_right (spRoadsRight ts))
    (O_Way3 : OwnCD P w K mg base (L2.CX P w) "Way" A.Way 5 pm_Way_init (spWayInit K A) [.ref A.T0]) (O_Road : OwnC P w K mg base (L2.CX P w) "Road" A.Road 5 pm_Road_init (spRoadInit K A)) (O__law_made : Own P w K mg base CX0 "_law_made" 7 pm__law_made (spMade K A))
    (O_Road_eq : OwnM P w K mg base CX0 A.Road "__eq__" 3 pm_Road_eq (spRoadEq K A)) (O_spread_of : Own P w K mg base CX0 "spread_of" 1 pm_spread_of spBox) (O_slack_of : Own P w K mg base CX0 "slack_of" 2 pm_slack_of spSlack) :
    FnOk P w K mg base CX0 10 f (PySem.W.fnOf "law" "law" (defArgs s_law) (defBody s_law) (defScope s_law) .none kV doc pm an (.ref c) ct) pm_law (spLawL K PS) := by
  refine fn_of lk hcd sc_law (fun vs H Q E h => ?_) (fun A' outer sh H vs Q E hr h => ?_)
  · obtain ⟨_, _, rfl, _⟩ := h
    rfl
  · obtain ⟨sc, ns, rfl, hS, hlen, htb, k⟩ := h
    suffices h : ∃ t, PSs (cxOf CX0 P w K mg base nm_law "law" (defScope s_law) f (.ref c) A' outer sh H E).nox (defBody s_law) t ∧ t { nx := fun _ H' => Q .non H', rt := Q } (start nm_law [.ref sc]) H by
      obtain ⟨t, h1, h2⟩ := h
      exact ⟨t, h1.nox, h2⟩
    refine ⟨_, pss_cons (ps_for PassesOwn.never rfl (pi_range1 rfl T.n_range (pa_cons (pe_callB (call_max2 rfl) (by rfl) T.n_max (by decide +kernel) (pa_cons (pe_int) (pa_cons (pe_callB (call_min2 rfl) (by rfl) T.n_min (by decide +kernel) (pa_cons (pe_int) (pa_cons (pe_callB call_len_seq (by rfl) T.n_len (by decide +kernel) (pa_cons (pv 0) pa_nil)) pa_nil))) pa_nil))) pa_nil)) (pg_name (i := 1) sc_law.nd rfl (Or.inl rfl)) (pss_cons (ps_set (i := 2) sc_law.nd rfl (Or.inl rfl) (pe_own O__law_pool (hr.mono (by decide)) pass0 (pa_cons (pv 0) (pa_cons (pv 1) pa_nil))))
      (pss_cons (ps_set (i := 3) sc_law.nd rfl (Or.inl rfl) (pe_own O__law_road (hr.mono (by decide)) pass0 (pa_cons (pv 2) (pa_cons (pe_int) pa_nil))))
      (pss_cons (ps_if (PW.pt (pw_or (pt_not (pt_val (pe_own O__law_lulls_right (hr.mono (by decide)) pass0 (pa_cons (pv 2) (pa_cons (pv 3) pa_nil))))) (pw_or1 (pt_not (pt_val (pe_own O__law_roads_right (hr.mono (by decide)) pass0 (pa_cons (pv 2) (pa_cons (pv 3) pa_nil)))))))) (pss_one (ps_ret (pe_bl))) (pss_nil))
      (pss_cons (ps_for PassesOwn.never rfl (pi_list (pe_lst (pa_cons (pe_non) (pa_cons (pe_int) (pa_cons (pe_newD O_Way3 (hr.mono (by decide)) passL (pa_cons (pe_non) (pa_cons (pe_int) (pa_cons (pe_int) pa_nil)))) (pa_cons (pe_str) pa_nil)))))) (pg_name (i := 4) sc_law.nd rfl (Or.inr rfl)) (pss_one (ps_if (pt_cmpR (op_neD hr.units) (pe_told (k := 6) (defScope s_law) rfl "law" ts.l ts.m1 ts.u1 D_told T TB rfl rfl (hr.mono (by decide)) (fun _ _ _ _ _ _ _ hr2 => pe_newS O_Road (hr2.mono (by decide)) (takes_of rfl rfl rfl rfl) (pa_cons (pv 4) (pa_cons (pe_int) (pa_cons (pe_int) (pa_cons (pe_int) (pa_cons (pe_lst (pa_cons (pe_int) pa_nil)) (pa_cons (pe_int) (pa_cons (pe_int) pa_nil))))))))) (pe_lst (pa_cons (pe_str) (pa_cons (pe_str) (pa_cons (pe_bl) pa_nil)))) (nomark _)) (pss_one (ps_ret (pe_bl))) (pss_nil))))
      (pss_cons (ps_par (i := 5) (j := 6) (by rfl) sc_law.nd rfl rfl (by decide) rfl rfl (pa_cons (pe_own O__law_made (hr.mono (by decide)) pass0 (pa_cons (pv 3) pa_nil)) (pa_cons (pe_callTy call_list_of (by rfl) T.n_list (by decide +kernel) (pa_cons (pe_ix ix_list (pv 3) (pe_int) (fun _ _ => rfl)) pa_nil)) pa_nil)) (by rfl))
      (pss_cons (ps_set (i := 7) sc_law.nd rfl (Or.inl rfl) (pe_callTy call_list_of (by rfl) T.n_list (by decide +kernel) (pa_cons (pv 3) pa_nil)))
      (pss_cons (ps_set (i := 8) sc_law.nd rfl (Or.inl rfl) (pe_op op_add (pe_int) (pe_own O__law_take (hr.mono (by decide)) pass0 (pa_cons (pv 2) (pa_cons (pe_int) pa_nil)))))
      (Evl.pss_cut (ps_asg (pe_ifExp (PW.pt (pw_and (pt_cmpR op_eq (pv 8) (pe_int) (nomark _)) (pw_and1 (pt_cmpR op_lt (pe_callB call_len_seq (by rfl) T.n_len (by decide +kernel) (pa_cons (pv 6) pa_nil)) (pe_int) (nomark _))))) (pe_op op_cat (pv 6) (pe_lst (pa_cons (pe_int) pa_nil))) (pe_ifExp (pt_cmpR op_eq (pv 8) (pe_int) (nomark _)) (pe_op op_cat (pe_slice sl_list (pv 6) po_none (po_some (pe_int))) (pe_lst (pa_cons (pe_int) pa_nil))) (pe_op op_add (pe_ix ix_list (pv 7) (pv 8) (fun _ _ => rfl)) (pe_int)))) (pg_sub (pv 7) (pv 8) set_list))
      (Evl.pss_cut (ps_if (pt_cmpR op_eq (pv 8) (pe_int) (nomark _)) (pss_one (ps_asg (pe_op op_add (pe_op op_mod (pe_callTy call_int1 (by rfl) T.n_int (by decide +kernel) (pa_cons (pe_ix ix_list (pv 3) (pe_int) (fun _ _ => rfl)) pa_nil)) (pe_int)) (pe_int)) (pg_sub (pv 7) (pe_int) set_list))) (pss_nil))
      (pss_cons (ps_par (i := 9) (j := 10) (by rfl) sc_law.nd rfl rfl (by decide) rfl rfl (pa_cons (pe_own O__law_made (hr.mono (by decide)) pass0 (pa_cons (pv 7) pa_nil)) (pa_cons (pe_own O__law_made (hr.mono (by decide)) pass0 (pa_cons (pv 3) pa_nil)) pa_nil)) (by rfl))
      (pss_cons (ps_expr (pe_bm PySem.F.plainAttrs_list PySem.F.slot_list_append PySem.F.type_list_append mt_append (pe_ix ix_list (pv 3) (pe_int) (fun _ _ => rfl)) (pa_cons (pe_int) pa_nil)))
      (pss_cons (ps_if (PW.pt (pw_or (pt_cmpR (op_neD hr.units) (pe_fld (pv 5) rfl) (pe_callTy call_tuple_of (by rfl) T.n_tuple (by decide +kernel) (pa_cons (pv 6) pa_nil)) (nomark _)) (pw_or (pt_cmpR (eqO O_Road_eq T.Road.neM (hr.mono (by decide)) pass0) (pv 5) (pv 9) (nomark _)) (pw_or (pt_cmpR (eqO O_Road_eq T.Road.neM (hr.mono (by decide)) pass0) (pv 5) (pe_int) (nomark _)) (pw_or1 (pt_not (pt_cmpR (eqO O_Road_eq T.Road.neM (hr.mono (by decide)) pass0) (pv 5) (pv 10) (nomark _)))))))) (pss_one (ps_ret (pe_bl))) (pss_nil))
      (pss_cons (ps_setLc (i := 11) (own := [("_law_box", 13)]) (g := gName 13) (by rfl) sc_law.nd rfl rfl (sw_true rfl rfl rfl (by decide +kernel)) (pi_list (pe_ix ix_list (pv 3) (pe_int) (fun _ _ => rfl))) (blkOk_by (own := [("_law_box", 13)]) (N := nm_law) (sc := defScope s_law) (by decide +kernel)) (fun _ _ _ _ _ => pg_name (i := 13) sc_law.nd rfl (Or.inl rfl)) (fun s1 H1 C1 cl fp => pts_nil) (fun s1 H1 C1 cl fp => pe_op op_sub (pe_ix (ix_tupK (K := K) rfl) (pv 13) (pe_int) (fun _ _ => rfl)) (pe_op op_sub (pe_ix (ix_tupK (K := K) rfl) (pv 13) (pe_int) (fun _ _ => rfl)) (pe_ix (ix_tupK (K := K) rfl) (pv 13) (pe_int) (fun _ _ => rfl)))))
      (pss_cons (ps_setLc (i := 12) (own := [("_law_box", 13)]) (g := gName 13) (by rfl) sc_law.nd rfl rfl (sw_true rfl rfl rfl (by decide +kernel)) (pi_list (pe_ix ix_list (pv 3) (pe_int) (fun _ _ => rfl))) (blkOk_by (own := [("_law_box", 13)]) (N := nm_law) (sc := defScope s_law) (by decide +kernel)) (fun _ _ _ _ _ => pg_name (i := 13) sc_law.nd rfl (Or.inl rfl)) (fun s1 H1 C1 cl fp => pts_nil) (fun s1 H1 C1 cl fp => pe_op op_sub (pe_ix (ix_tupK (K := K) rfl) (pv 13) (pe_int) (fun _ _ => rfl)) (pe_ix (ix_tupK (K := K) rfl) (pv 13) (pe_int) (fun _ _ => rfl))))
      (pss_one (ps_if (PW.pt (pw_or (pt_cmpR (op_neD hr.units) (pe_lc (own := [("_law_box", 13)]) (g := gName 13) (by rfl) sc_law.nd (pi_list (pe_ix ix_list (pv 3) (pe_int) (fun _ _ => rfl))) (blkOk_by (own := [("_law_box", 13)]) (N := nm_law) (sc := defScope s_law) (by decide +kernel)) (fun _ _ _ _ _ => pg_name (i := 13) sc_law.nd rfl (Or.inl rfl)) (fun s1 H1 C1 cl fp => pts_nil) (fun s1 H1 C1 cl fp => pe_own O_slack_of (hr.mono (by decide)) pass0 (pa_cons (pv 13) pa_nil))) (pv 11) (nomark _)) (pw_or1 (pt_cmpR (op_neD hr.units) (pe_lc (own := [("_law_box", 13)]) (g := gName 13) (by rfl) sc_law.nd (pi_list (pe_ix ix_list (pv 3) (pe_int) (fun _ _ => rfl))) (blkOk_by (own := [("_law_box", 13)]) (N := nm_law) (sc := defScope s_law) (by decide +kernel)) (fun _ _ _ _ _ => pg_name (i := 13) sc_law.nd rfl (Or.inl rfl)) (fun s1 H1 C1 cl fp => pts_nil) (fun s1 H1 C1 cl fp => pe_own O_spread_of (hr.mono (by decide)) pass0 (pa_cons (pv 13) pa_nil))) (pv 12) (nomark _))))) (pss_one (ps_ret (pe_bl))) (pss_nil))))))))))))))))))
      (pss_one (ps_ret (pe_bl))), ?_⟩
    refine ⟨_, rfl, sc, _, rfl, .inl hS, _, _, rfl, _, _, rfl, _, rfl, ?_⟩
    rw [List.length_map]
    have hj : ∀ a : Int, a = (if (ns.length : Int) < 24 then (ns.length : Int) else 24) → 0 ≤ (if a > 1 then a else 1) ∧ (if a > 1 then a else 1) ≤ 24 := fun a ha => by
      subst ha
      split <;> split <;> omega
    obtain ⟨j0, j3⟩ := hj _ rfl
    generalize (if (if (ns.length : Int) < 24 then (ns.length : Int) else 24) > 1 then (if (ns.length : Int) < 24 then (ns.length : Int) else 24) else 1) = jj at j0 j3 ⊢
    refine ⟨by omega, by omega, ?_⟩
    refine for_range (fun i σ' H' => ∃ o1 o2 o3 o4 o5 o6 o7 o8 o9 o10 o11 o12 : Option V, σ' = [some (.ref sc), o1, o2, o3, o4, o5, o6, o7, o8, o9, o10, o11, o12, Option.none] ∧ LamX.ExtN H H' ∧ LamX.Tabs ts.l H')
      ⟨_, _, _, _, _, _, _, _, _, _, _, _, rfl, .refl H, fun p hp => .nil (htb p.1 (hPS p hp))⟩ (fun i σ' H0 hi pv => ?_) (fun σ' H' pv => k _)
    obtain ⟨o1, o2, o3, o4, o5, o6, o7, o8, o9, o10, o11, o12, rfl, e0, tb0⟩ := pv
    refine ⟨_, rfl, _, rfl, sc, ns, i, (by rw [Int.zero_add]; rfl), sqL_n hS e0, hlen, by omega, fun st H1 e1 hst0 st1 => ?_⟩
    refine ⟨_, rfl, st, rfl, st1, fun p bx ro xs r H2 hd ok np nbx nro hp1 hbx1 hro1 st2 x2 => ?_⟩
    have n02 : LamX.ExtN H0 H2 := extn_st (extN e1) hst0 (ExtM.t x2)
    have tb2 : LamX.Tabs ts.l H2 := tabs_m (tb0.ext e1) st1 x2
    have hp0 := none_n e1 hp1
    have hro0 := none_n e1 hro1
    refine ⟨_, rfl, _, rfl, st, p, r.o, r.l, r.d, r.la, r.tu, r.lo, r.qu, r.pe, bx, ro, rfl, st2, hd.p, tb2, fun H3 st3 tb3 t3 => ⟨_, rfl, iteF ?_⟩⟩
    have hd3 := hd.t st2 np nbx nro t3
    refine ⟨_, rfl, _, rfl, st, p, bx, ro, xs, r, rfl, st3, hd3, ok, np, nbx, nro, tb3, fun H4 st4 tb4 t4 => ⟨_, rfl, iteF ?_⟩⟩
    have hd4 := hd3.t st3 np nbx nro t4
    have n04 : LamX.ExtN H0 H4 := extn_st (extn_st n02 hst0 t3) hst0 t4
    refine fun xw dw hxw hdw hnew => mk_way (A := A) (bo := none) (li := 1) (mi := 1) (bs := []) (xd := .tuple []) (fun n hn => nomatch hn) ⟨by decide, by decide, by decide⟩ (.inr rfl) (by decide) (fun _ h => nomatch h) (.tup (T.t0 _) .nil) hxw hdw hnew rfl fun H5 e5 hw5 => ⟨rfl, by show 4 ≤ sizeLine; decide, fun l hl => ?_⟩
    have e6 := e5.trans (Ext.upd (o := .lst [.non, .int 5, .ref xw, .str "way"]) hl)
    have hw6 := hw5.ext (Ext.upd (o := .lst [.non, .int 5, .ref xw, .str "way"]) hl)
    have hl6 : upd H5 l (.lst [.non, .int 5, .ref xw, .str "way"]) l = some (.lst [.non, .int 5, .ref xw, .str "way"]) := upd_same
    generalize upd H5 l _ = H6 at e6 hw6 hl6 ⊢
    refine ⟨l, rfl, ⟨_, SqL.of hl6⟩, ?_⟩
    refine for_list (xs := [.non, .int 5, .ref xw, .str "way"]) (fun j σ' H' => (∃ o4 : Option V, σ' = [some (.ref sc), some (.int (0 + (i : Int))), some (.ref st), some (.ref p), o4, o5, o6, o7, o8, o9, o10, o11, o12, Option.none]) ∧ LamX.ExtN H6 H' ∧ LamX.Tabs ts.l H') ⟨⟨_, rfl⟩, .refl _, tb4.ext e6⟩ (fun j σ' H' _ pv => SqL.of (pv.2.1 _ _ hl6 nT_lst)) (fun j v σ' H' hv pv => ?_) (fun σ' H7 pv => ?_)
    · obtain ⟨⟨o4', rfl⟩, n7, tb7⟩ := pv
      have hv' : (∃ e, (∀ H, Dp K H v e)) ∨ v = .ref xw := by
        have hj : j < 4 := (List.getElem?_eq_some_iff.mp hv).1
        match j, hj, hv with
        | 0, _, hv => cases hv; exact .inl ⟨_, fun _ => .non⟩
        | 1, _, hv => cases hv; exact .inl ⟨_, fun _ => .int _⟩
        | 2, _, hv => cases hv; exact .inr rfl
        | 3, _, hv => cases hv; exact .inl ⟨_, fun _ => .str _⟩
      refine ⟨tb7, fun H8 n8 tb8 => ⟨_, rfl, by show 1 ≤ sizeLine; decide, fun l1 hl1 x dx hx hdx hne => ?_⟩⟩
      have e9 := ((Ext.upd (o := .lst [.int 1]) hl1).trans (Ext.upd (o := .own x) hdx)).trans (Ext.upd (o := .ins A.Road dx []) (by rw [upd_ne hne.symm]; exact hx))
      have hro := SqL.of (K := K) ((Ext.upd (o := .own x) hdx).trans (Ext.upd (o := .ins A.Road dx []) (by rw [upd_ne hne.symm]; exact hx)) _ _ (upd_same (H := H8) (a := l1) (o := .lst [.int 1])))
      refine road_bad (xw := xw) upd_same (hv'.imp (fun ⟨e, h⟩ => ⟨e, h _⟩) fun h => ⟨h, ((hw6.n n7).n n8).ext e9⟩) hro rfl fun HA eA e he => ⟨rfl, e, _, rfl, upd_same, fun q HB eB hq => ?_⟩
      have e8B := ((e9.trans eA).trans (Ext.upd he)).trans eB
      refine ⟨by show 3 ≤ sizeLine; decide, fun l2 hl2 => ?_⟩
      have fw := fl_part (v := .str "way") (by show PySem.PyData.canLay0 (.str "way") = true; decide +kernel)
      have e8C := e8B.trans (Ext.upd (o := .lst [.str "part", .str "way", .bl true]) hl2)
      refine neD_lst (SqL.of (Ext.upd hl2 _ _ hq)) (SqL.of upd_same) fw fw ⟨_, rfl, ?_⟩
      rw [eqv_same fw]
      exact iteF ⟨⟨_, rfl⟩, (n7.trans n8).trans (extN e8C), tb8.ext e8C⟩
    · obtain ⟨⟨o4', rfl⟩, n7, tb7⟩ := pv
      have n67 := (extN e6).trans n7
      have hd7 := hd4.n n67
      have st7 := st4.n n67
      have n07 := n04.trans n67
      clear hd3 hd4 hd st2 st3 st4 tb2 tb3 tb4 t3 t4 n02 n04 n67 hl6 hw6 hw5
      refine ⟨_, rfl, p, bx, ro, xs, r, rfl, hd7, ok.md, fun q H8 e8 _ rd8 => ?_⟩
      have hd8 := hd7.n (extN e8)
      refine ⟨_, rfl, p, _, 7, .ref ro, rfl, rfl, SqL.of hd8.p, rfl, ro, _, rfl, .inl (SqL.of hd8.ro), fun rw hrw => ?_⟩
      have e9 := Ext.upd (o := .lst (r.rs.map V.int)) hrw
      have g9 : Gd K A ts st p bx ro rw q xs r H0 (upd H8 rw (.lst (r.rs.map V.int))) := ⟨hd8.n (extN e9), rd8.ext e9, upd_same, (st7.ext e8).ext e9, (tb7.ext e8).ext e9, (n07.trans (extN e8)).trans (extN e9), np, nbx, nro, (st7.ext e8).new hrw, (ne_of_none hd8.ro hrw).symm, hst0⟩
      generalize upd H8 rw _ = H9 at g9 ⊢
      clear e9 hrw hd8 e8 rd8 hd7 st7 n07 tb7
      refine ⟨_, _, rfl, ?_⟩
      refine ⟨_, rfl, p, _, rfl, .inl (SqL.of g9.d.p), fun ot hot => ?_⟩
      have e10 := Ext.upd (o := .lst [.int r.o, .int r.l, .int r.d, .ref bx, .int r.la, .int r.tu, .int r.lo, .ref ro, .int r.qu, .int r.pe]) hot
      have g10 := g9.ext e10
      have ot1 : ot ≠ p := (ne_of_none g9.d.p hot).symm
      have ot2 : ot ≠ bx := (ne_of_none g9.d.bx hot).symm
      have ot3 : ot ≠ ro := (ne_of_none g9.d.ro hot).symm
      have ot4 : ot ≠ rw := (ne_of_none g9.w hot).symm
      have ot5 : ot ≠ st := g9.po.new hot
      have ot0 : NoT H0 ot := NoT.back g9.e hot
      have ho10 : upd H9 ot (.lst [.int r.o, .int r.l, .int r.d, .ref bx, .int r.la, .int r.tu, .int r.lo, .ref ro, .int r.qu, .int r.pe]) ot = some (.lst [.int r.o, .int r.l, .int r.d, .ref bx, .int r.la, .int r.tu, .int r.lo, .ref ro, .int r.qu, .int r.pe]) := upd_same
      generalize upd H9 ot _ = H10 at g10 ho10 ⊢
      clear g9 hot e10
      refine ⟨_, rfl, st, 5, rfl, g10.po, by decide, by decide, fun n H11 n0 n5 st11 x11 => ⟨_, _, rfl, rfl, ?_⟩⟩
      have g11 := g10.m x11 st11
      have ho11 := x11 _ _ ot5 ho10
      clear g10 ho10 x11 st11
      refine ⟨fun σ H' => ∃ r2 ro2, σ = [some (.ref sc), some (.int (0 + (i : Int))), some (.ref st), some (.ref p), o4', some (.ref q), some (.ref rw), some (.ref ot), some (.int (5 + n)), o9, o10, o11, o12, Option.none] ∧ Drawn H' ot bx ro2 xs r2 ∧ Chg n r r2 ∧ Gd K A ts st p bx ro rw q xs r H0 H', ?_, ?_⟩
      · have hrs := ok.r3
        have hrs1 := ok.r1
        have hw11 := SqL.of (K := K) g11.w
        refine ⟨_, rfl, rfl, _, rfl, ?_⟩
        rw [dvi]
        by_cases h7 : 5 + n = 7
        · rw [decide_eq_true h7]
          obtain rfl : n = 2 := by omega
          refine iteT ⟨_, rfl, rw, _, rfl, .inl hw11, _, _, rfl, rfl, _, rfl, ?_⟩
          rw [List.length_map]
          have fin : ∀ (rs2 : List Int) (nl : Addr) (H' : Hp), Ext H11 H' → H' nl = some (.lst (rs2.map V.int)) → 1 ≤ rs2.length → rs2.length ≤ 3 → (∀ y ∈ rs2, 1 ≤ y ∧ y ≤ 600) → rs2.length ≠ r.rs.length →
              ∃ r2 ro2, [some (.ref sc), some (.int (0 + (i : Int))), some (.ref st), some (.ref p), o4', some (.ref q), some (.ref rw), some (.ref ot), some (.int (5 + 2)), o9, o10, o11, o12, Option.none] = [some (.ref sc), some (.int (0 + (i : Int))), some (.ref st), some (.ref p), o4', some (.ref q), some (.ref rw), some (.ref ot), some (.int (5 + 2)), o9, o10, o11, o12, Option.none] ∧
                Drawn (upd H' ot (.lst ([.int r.o, .int r.l, .int r.d, .ref bx, .int r.la, .int r.tu, .int r.lo, .ref ro, .int r.qu, .int r.pe].set 7 (.ref nl)))) ot bx ro2 xs r2 ∧ Chg 2 r r2 ∧ Gd K A ts st p bx ro rw q xs r H0 (upd H' ot (.lst ([.int r.o, .int r.l, .int r.d, .ref bx, .int r.la, .int r.tu, .int r.lo, .ref ro, .int r.qu, .int r.pe].set 7 (.ref nl)))) := fun rs2 nl H' e' hnl h1 h3 hr hne => by
            have nne : nl ≠ ot := fun z => by
              rw [z, e' _ _ ho11] at hnl
              injection Option.some.inj hnl with hh
              have := congrArg List.length hh
              rw [List.length_map] at this
              have h4 : 10 = rs2.length := this
              omega
            have g' := (g11.ext e').set (ys := [.int r.o, .int r.l, .int r.d, .ref bx, .int r.la, .int r.tu, .int r.lo, .ref ro, .int r.qu, .int r.pe].set 7 (.ref nl)) (e' _ _ ho11) ot0 ot1 ot2 ot3 ot4 ot5
            exact ⟨{ r with rs := rs2 }, nl, rfl, ⟨upd_same, g'.d.bx, g'.d.xs, by rw [upd_ne nne]; exact hnl⟩, chg2 ok h1 h3 hr hne, g'⟩
          have rr600 : ∀ y ∈ r.rs, 1 ≤ y ∧ y ≤ 600 := fun y hy => by have := ok.rr y hy; omega
          by_cases h3 : (r.rs.length : Int) < 3
          · rw [decide_eq_true h3]
            refine iteT ⟨_, rfl, by show 1 ≤ sizeLine; decide, fun l1 hl1 => ⟨rw, l1, _, _, rfl, rfl, Ext.upd hl1 _ _ g11.w, upd_same, ?_, fun l2 hl2 => ?_⟩⟩
            · exact Nat.le_trans (show (r.rs.map V.int).length + [V.int 1].length ≤ 1001 by rw [List.length_map]; show _ + 1 ≤ _; omega) (by decide)
            · refine ⟨_, rfl, _, rfl, ot, _, _, 7, rfl, rfl, (Ext.upd hl2) _ _ ((Ext.upd hl1) _ _ ho11), rfl, ?_⟩
              exact fin (r.rs ++ [1]) l2 _ ((Ext.upd hl1).trans (Ext.upd hl2)) (by rw [upd_same, List.map_append]; rfl) (by rw [List.length_append]; show 1 ≤ _ + 1; omega) (by rw [List.length_append]; show _ + 1 ≤ 3; omega) (fun y hy => by
                rcases List.mem_append.mp hy with h | h
                · exact rr600 y h
                · rw [List.mem_singleton.mp h]
                  decide) (by rw [List.length_append]; show _ + 1 ≠ _; omega)
          · rw [decide_eq_false h3]
            obtain ⟨a1, a2, a3, ha⟩ : ∃ a1 a2 a3, r.rs = [a1, a2, a3] := by
              have hl : r.rs.length = 3 := by omega
              match hq : r.rs, hl with
              | [a1, a2, a3], _ => exact ⟨_, _, _, rfl⟩
            have hwA := g11.w
            rw [ha] at hwA
            refine iteF ⟨_, rfl, rfl, _, rfl, ?_⟩
            rw [dvi, decide_eq_true h7]
            refine iteT ⟨_, rfl, _, rfl, rw, _, rfl, SqL.of hwA, fun l1 hl1 => ⟨by show 1 ≤ sizeLine; decide, fun l2 hl2 => ⟨l1, l2, [.int a1], _, rfl, rfl, Ext.upd hl2 _ _ upd_same, upd_same, by show 2 ≤ sizeLine; decide, fun l3 hl3 => ?_⟩⟩⟩
            refine ⟨_, rfl, _, rfl, ot, _, _, 7, rfl, rfl, (Ext.upd hl3) _ _ ((Ext.upd hl2) _ _ ((Ext.upd hl1) _ _ ho11)), rfl, ?_⟩
            refine fin [a1, 9] l3 _ (((Ext.upd hl1).trans (Ext.upd hl2)).trans (Ext.upd hl3)) upd_same (by show 1 ≤ 2; decide) (by show 2 ≤ 3; decide) (fun y hy => ?_) (by rw [ha]; show (2 : Nat) ≠ 3; decide)
            rcases List.mem_cons.mp hy with h | h
            · exact rr600 y (by rw [ha, h]; exact List.mem_cons_self)
            · rw [List.mem_singleton.mp h]
              decide
        · rw [decide_eq_false h7]
          refine iteF ⟨_, rfl, rfl, _, rfl, ?_⟩
          rw [dvi, decide_eq_false h7]
          have hn : n = 0 ∨ n = 1 ∨ n = 3 ∨ n = 4 := by omega
          rcases hn with rfl | rfl | rfl | rfl
          · refine iteF ⟨_, rfl, _, rfl, ot, _, 5, .int r.tu, rfl, rfl, SqL.of ho11, rfl, _, _, rfl, rfl, ?_⟩
            refine ⟨_, rfl, _, rfl, ot, _, _, 5, rfl, rfl, ho11, rfl, ?_⟩
            have g' := g11.set (ys := [.int r.o, .int r.l, .int r.d, .ref bx, .int r.la, .int r.tu, .int r.lo, .ref ro, .int r.qu, .int r.pe].set 5 (.int (r.tu + 1))) ho11 ot0 ot1 ot2 ot3 ot4 ot5
            exact ⟨{ r with tu := r.tu + 1 }, ro, rfl, ⟨upd_same, g'.d.bx, g'.d.xs, g'.d.ro⟩, chg0 ok, g'⟩
          · refine iteF ⟨_, rfl, _, rfl, ot, _, 6, .int r.lo, rfl, rfl, SqL.of ho11, rfl, _, _, rfl, rfl, ?_⟩
            refine ⟨_, rfl, _, rfl, ot, _, _, 6, rfl, rfl, ho11, rfl, ?_⟩
            have g' := g11.set (ys := [.int r.o, .int r.l, .int r.d, .ref bx, .int r.la, .int r.tu, .int r.lo, .ref ro, .int r.qu, .int r.pe].set 6 (.int (r.lo + 1))) ho11 ot0 ot1 ot2 ot3 ot4 ot5
            exact ⟨{ r with lo := r.lo + 1 }, ro, rfl, ⟨upd_same, g'.d.bx, g'.d.xs, g'.d.ro⟩, .inl ⟨rfl, rfl⟩, g'⟩
          · refine iteF ⟨_, rfl, _, rfl, ot, _, 8, .int r.qu, rfl, rfl, SqL.of ho11, rfl, _, _, rfl, rfl, ?_⟩
            refine ⟨_, rfl, _, rfl, ot, _, _, 8, rfl, rfl, ho11, rfl, ?_⟩
            have g' := g11.set (ys := [.int r.o, .int r.l, .int r.d, .ref bx, .int r.la, .int r.tu, .int r.lo, .ref ro, .int r.qu, .int r.pe].set 8 (.int (r.qu + 1))) ho11 ot0 ot1 ot2 ot3 ot4 ot5
            exact ⟨{ r with qu := r.qu + 1 }, ro, rfl, ⟨upd_same, g'.d.bx, g'.d.xs, g'.d.ro⟩, chg3 ok, g'⟩
          · refine iteF ⟨_, rfl, _, rfl, ot, _, 9, .int r.pe, rfl, rfl, SqL.of ho11, rfl, _, _, rfl, rfl, ?_⟩
            refine ⟨_, rfl, _, rfl, ot, _, _, 9, rfl, rfl, ho11, rfl, ?_⟩
            have g' := g11.set (ys := [.int r.o, .int r.l, .int r.d, .ref bx, .int r.la, .int r.tu, .int r.lo, .ref ro, .int r.qu, .int r.pe].set 9 (.int (r.pe + 1))) ho11 ot0 ot1 ot2 ot3 ot4 ot5
            exact ⟨{ r with pe := r.pe + 1 }, ro, rfl, ⟨upd_same, g'.d.bx, g'.d.xs, g'.d.ro⟩, chg4 ok, g'⟩
      · rintro σ H12 ⟨r2, ro2, rfl, d2, ch, g12⟩
        refine ⟨fun σ H' => ∃ r2 ro2, σ = [some (.ref sc), some (.int (0 + (i : Int))), some (.ref st), some (.ref p), o4', some (.ref q), some (.ref rw), some (.ref ot), some (.int (5 + n)), o9, o10, o11, o12, Option.none] ∧ Drawn H' ot bx ro2 xs r2 ∧ MdOk r2 ∧ rdOf r2 ≠ rdOf r ∧ Gd K A ts st p bx ro rw q xs r H0 H', ?_, ?_⟩
        · refine ⟨_, rfl, rfl, _, rfl, ?_⟩
          rw [dvi]
          by_cases h6 : 5 + n = 6
          · rw [decide_eq_true h6]
            refine iteT ⟨_, rfl, p, _, 6, .int r.lo, rfl, rfl, SqL.of g12.d.p, rfl, .inl ⟨_, rfl, _, _, rfl, rfl, (show (0 : Int) < 3 by decide), _, _, rfl, rfl, ?_⟩⟩
            obtain ⟨rfl, rfl⟩ : n = 1 ∧ r2 = { r with lo := r.lo + 1 } := by
              rcases ch with ⟨h1, h2⟩ | ⟨h1, _⟩
              · exact ⟨h1, h2⟩
              · omega
            refine ⟨_, rfl, ot, _, 6, 6, rfl, rfl, d2.p, rfl, ?_⟩
            obtain ⟨c1, c2⟩ := chg1 ok
            have g' := g12.set (ys := [.int r.o, .int r.l, .int r.d, .ref bx, .int r.la, .int r.tu, .int (r.lo + 1), .ref ro2, .int r.qu, .int r.pe].set 6 (.int (r.lo % 3 + 1))) d2.p ot0 ot1 ot2 ot3 ot4 ot5
            refine ⟨{ r with lo := r.lo % 3 + 1 }, ro2, rfl, ⟨upd_same, g'.d.bx, g'.d.xs, ?_⟩, c1, c2, g'⟩
            have nne : ro2 ≠ ot := fun z => by
              have h2 := d2.ro
              rw [z, d2.p] at h2
              injection Option.some.inj h2 with hh
              have := congrArg List.length hh
              rw [List.length_map] at this
              have h4 : 10 = r.rs.length := this
              have := ok.r3
              omega
            rw [upd_ne nne]
            exact d2.ro
          · rw [decide_eq_false h6]
            rcases ch with ⟨h1, _⟩ | ⟨_, h1, h2⟩
            · omega
            · exact iteF ⟨r2, ro2, rfl, d2, h1, h2, g12⟩
        · rintro σ H12 ⟨r2, ro2, rfl, d2, md2, ne2, g12⟩
          clear ch
          refine ⟨_, rfl, ot, bx, ro2, xs, r2, rfl, d2, md2, fun q2 H13 e13 _ rd2 => ⟨_, rfl, p, bx, ro, xs, r, rfl, g12.d.n (extN e13), ok.md, fun q3 H14 e14 _ rd3 => ⟨_, _, rfl, ?_⟩⟩⟩
          have g14 := (g12.ext e13).ext e14
          have rd2' := rd2.ext e14
          clear g12 d2 e13 e14 rd2
          refine ⟨_, rfl, p, _, 7, .ref ro, rfl, rfl, SqL.of g14.d.p, rfl, .inl ⟨rfl, _, SqL.of g14.d.ro⟩, ro, _, _, rfl, rfl, g14.d.ro, small1000 (by rw [List.length_map]; have := ok.r3; omega), ?_⟩
          have kk := keep_set (ys := r.rs.map V.int ++ [.int 77]) g14.d.ro
          have hrw := g14.nwr
          have hp15 : upd H14 ro (.lst (r.rs.map V.int ++ [.int 77])) p = some (.lst [.int r.o, .int r.l, .int r.d, .ref bx, .int r.la, .int r.tu, .int r.lo, .ref ro, .int r.qu, .int r.pe]) := by rw [upd_ne (p_ro g14.d ok)]; exact g14.d.p
          have hb15 : upd H14 ro (.lst (r.rs.map V.int ++ [.int 77])) bx = some (.lst xs) := by rw [upd_ne (bx_ro g14.d ok)]; exact g14.d.bx
          have hw15 : upd H14 ro (.lst (r.rs.map V.int ++ [.int 77])) rw = some (.lst (r.rs.map V.int)) := by rw [upd_ne hrw]; exact g14.w
          have hx15 : BxAt (upd H14 ro (.lst (r.rs.map V.int ++ [.int 77]))) xs r.bs := BxAt.to (fun t zs h => kk _ _ (fun _ z => by cases z) h) g14.d.xs
          have rq := g14.q.k kk
          have rq2 := rd2'.k kk
          have rq3 := rd3.k kk
          have tb15 := tabs_k g14.tb kk
          have n15 := extn_set (o := .lst (r.rs.map V.int ++ [.int 77])) g14.e (.of hro0)
          generalize upd H14 ro _ = H15 at hp15 hb15 hw15 hx15 rq rq2 rq3 tb15 n15 ⊢
          clear kk rd2' rd3
          obtain ⟨wq, ⟨dq, Tq, hq, hTq⟩, hwq⟩ := id rq
          obtain ⟨wq2, ⟨dq2, Tq2, hq2, _⟩, _⟩ := id rq2
          obtain ⟨wq3, ⟨dq3, Tq3, hq3, _⟩, _⟩ := id rq3
          refine ⟨_, rfl, q, A.Road, dq, _, _, rfl, hq, T.Road.cl, T.r_rows, rfl, _, rfl, rw, _, rfl, .inl ⟨SqL.of hw15, fun tp htp => ?_⟩⟩
          have e16 := Ext.upd (o := .tup (r.rs.map V.int)) htp
          refine neD_tup (hTq.ext e16) (SqT.of upd_same) fl_ints fl_ints ⟨_, rfl, ?_⟩
          rw [show (rdOf r).rs = r.rs from rfl, eqv_ints, decide_eq_true rfl]
          refine iteF ?_
          have hp16 := e16 _ _ hp15
          have hb16 := e16 _ _ hb15
          have hx16 := BxAt.to (fun t zs h => e16 _ _ h) hx15
          have q16 := e16 _ _ hq
          have q216 := e16 _ _ hq2
          have q316 := e16 _ _ hq3
          have rq16 := rq.ext e16
          have rq216 := rq2.ext e16
          have rq316 := rq3.ext e16
          have tb16 := tb15.ext e16
          have n16 := n15.trans (extN e16)
          clear hp15 hb15 hw15 hx15 hq hq2 hq3 rq rq2 rq3 tb15 n15 hTq hwq
          generalize upd H15 tp _ = H16 at hp16 hb16 hx16 q16 q216 q316 rq16 rq216 rq316 tb16 n16 ⊢
          refine ⟨_, rfl, _, rfl, q, dq, _, .ref A.Road, rfl, q16, T.Road.tyOf q216, T.Road.nfMe, q, rdOf r, _, rfl, rq16, .inl ⟨q2, rdOf r2, rfl, rq216, _, rfl, _, rfl, ?_⟩⟩
          rw [decide_eq_false (fun z => ne2 z.symm)]
          refine iteF ⟨_, rfl, q, dq, _, .type "int", rfl, q16, dp_ty (.int 5), T.Road.nfK .int, q, rdOf r, _, rfl, rq16, .inr ⟨_, .int 5, _, rfl, _, rfl, ?_⟩⟩
          refine iteF ⟨_, rfl, _, rfl, q, dq, _, .ref A.Road, rfl, q16, T.Road.tyOf q316, T.Road.nfMe, q, rdOf r, _, rfl, rq16, .inl ⟨q3, rdOf r, rfl, rq316, _, rfl, _, rfl, ?_⟩⟩
          rw [decide_eq_true rfl]
          refine iteF ?_
          clear q16 q216 q316 rq16 rq216 rq316
          have hxl : xs.length ≤ 3 := by rw [hx16.len]; exact ok.b3
          refine ⟨_, rfl, p, _, 3, .ref bx, rfl, rfl, SqL.of hp16, rfl, bx, rfl, ⟨_, SqL.of hb16⟩, fun D17 hD17 => ?_⟩
          refine lc_list (xs := xs) (fun j H' => Ext H16 H' ∧ H' D17 = some (.lst (((r.bs.take j).map (fun b : Bx => b.2.2.1 - (b.2.1 - b.1))).map V.int))) ⟨Ext.upd hD17, upd_same⟩ (fun j H' _ pv => SqL.of (pv.1 _ _ hb16)) (fun j x H' hx pv => ?_) (fun H17 pv => ?_)
          · obtain ⟨e, hD⟩ := pv
            obtain ⟨t, qq, hqq, rfl, ht⟩ := hx16.get hx
            have ht' := e _ _ ht
            refine ⟨rfl, _, rfl, t, _, 2, .int qq.2.2.1, rfl, rfl, SqT.of ht', rfl, _, rfl, t, _, 1, .int qq.2.1, rfl, rfl, SqT.of ht', rfl, _, rfl, t, _, 0, .int qq.1, rfl, rfl, SqT.of ht', rfl, _, _, rfl, rfl, _, _, rfl, rfl, _, hD, small_sz (by rw [List.length_map, List.length_map, List.length_take]; have := ok.b3; omega), ext_mut e hD17, ?_⟩
            rw [upd_same, take_snoc hqq, List.map_append, List.map_append]
            rfl
          · obtain ⟨e, hA17⟩ := pv
            rw [List.take_of_length_le (by rw [hx16.len]; exact Nat.le_refl _)] at hA17
            have hp17 := e _ _ hp16
            have hb17 := e _ _ hb16
            have hx17 := BxAt.to (fun t zs h => e _ _ h) hx16
            have tb17 := tb16.ext e
            have n17 := n16.trans (extN e)
            have hS17 := hA17
            refine ⟨_, rfl, p, _, 3, .ref bx, rfl, rfl, SqL.of hp17, rfl, bx, rfl, ⟨_, SqL.of hb17⟩, fun D18 hD18 => ?_⟩
            refine lc_list (xs := xs) (fun j H' => Ext H17 H' ∧ H' D18 = some (.lst (((r.bs.take j).map (fun b : Bx => b.2.1 - b.1)).map V.int))) ⟨Ext.upd hD18, upd_same⟩ (fun j H' _ pv => SqL.of (pv.1 _ _ hb17)) (fun j x H' hx pv => ?_) (fun H18 pv => ?_)
            · obtain ⟨e, hD⟩ := pv
              obtain ⟨t, qq, hqq, rfl, ht⟩ := hx17.get hx
              have ht' := e _ _ ht
              refine ⟨rfl, _, rfl, t, _, 1, .int qq.2.1, rfl, rfl, SqT.of ht', rfl, _, rfl, t, _, 0, .int qq.1, rfl, rfl, SqT.of ht', rfl, _, _, rfl, rfl, _, hD, small_sz (by rw [List.length_map, List.length_map, List.length_take]; have := ok.b3; omega), ext_mut e hD18, ?_⟩
              rw [upd_same, take_snoc hqq, List.map_append, List.map_append]
              rfl
            · obtain ⟨e, hA18⟩ := pv
              rw [List.take_of_length_le (by rw [hx17.len]; exact Nat.le_refl _)] at hA18
              have hp18 := e _ _ hp17
              have hb18 := e _ _ hb17
              have hx18 := BxAt.to (fun t zs h => e _ _ h) hx17
              have tb18 := tb17.ext e
              have n18 := n17.trans (extN e)
              have hS18 := e _ _ hS17
              have hP18 := hA18
              refine ⟨_, rfl, p, _, 3, .ref bx, rfl, rfl, SqL.of hp18, rfl, bx, rfl, ⟨_, SqL.of hb18⟩, fun D19 hD19 => ?_⟩
              refine lc_list (xs := xs) (fun j H' => Ext H18 H' ∧ H' D19 = some (.lst (((r.bs.take j).map (fun b : Bx => b.2.2.1 - (b.2.1 - b.1))).map V.int))) ⟨Ext.upd hD19, upd_same⟩ (fun j H' _ pv => SqL.of (pv.1 _ _ hb18)) (fun j x H' hx pv => ?_) (fun H19 pv => ?_)
              · obtain ⟨e, hD⟩ := pv
                obtain ⟨t, qq, hqq, rfl, ht⟩ := hx18.get hx
                have ht' := e _ _ ht
                refine ⟨rfl, _, rfl, t, qq.1, qq.2.1, qq.2.2.1, qq.2.2.2, rfl, ht', _, hD, small_sz (by rw [List.length_map, List.length_map, List.length_take]; have := ok.b3; omega), ext_mut e hD19, ?_⟩
                rw [upd_same, take_snoc hqq, List.map_append, List.map_append]
                rfl
              · obtain ⟨e, hA19⟩ := pv
                rw [List.take_of_length_le (by rw [hx18.len]; exact Nat.le_refl _)] at hA19
                have hp19 := e _ _ hp18
                have hb19 := e _ _ hb18
                have hx19 := BxAt.to (fun t zs h => e _ _ h) hx18
                have tb19 := tb18.ext e
                have n19 := n18.trans (extN e)
                have hS19 := e _ _ hS18
                have hP19 := e _ _ hP18
                refine ⟨_, rfl, neD_lst (SqL.of hA19) (SqL.of hS19) fl_ints fl_ints ⟨_, rfl, ?_⟩⟩
                rw [eqv_ints, decide_eq_true rfl]
                refine iteF ?_
                refine ⟨_, rfl, p, _, 3, .ref bx, rfl, rfl, SqL.of hp19, rfl, bx, rfl, ⟨_, SqL.of hb19⟩, fun D20 hD20 => ?_⟩
                refine lc_list (xs := xs) (fun j H' => Ext H19 H' ∧ H' D20 = some (.lst (((r.bs.take j).map (fun b : Bx => b.2.1 - b.1)).map V.int))) ⟨Ext.upd hD20, upd_same⟩ (fun j H' _ pv => SqL.of (pv.1 _ _ hb19)) (fun j x H' hx pv => ?_) (fun H20 pv => ?_)
                · obtain ⟨e, hD⟩ := pv
                  obtain ⟨t, qq, hqq, rfl, ht⟩ := hx19.get hx
                  have ht' := e _ _ ht
                  refine ⟨rfl, _, rfl, t, qq.1, qq.2.1, qq.2.2.1, qq.2.2.2, rfl, ht', _, hD, small_sz (by rw [List.length_map, List.length_map, List.length_take]; have := ok.b3; omega), ext_mut e hD20, ?_⟩
                  rw [upd_same, take_snoc hqq, List.map_append, List.map_append]
                  rfl
                · obtain ⟨e, hA20⟩ := pv
                  rw [List.take_of_length_le (by rw [hx19.len]; exact Nat.le_refl _)] at hA20
                  have hp20 := e _ _ hp19
                  have hb20 := e _ _ hb19
                  have hx20 := BxAt.to (fun t zs h => e _ _ h) hx19
                  have tb20 := tb19.ext e
                  have n20 := n19.trans (extN e)
                  have hP20 := e _ _ hP19
                  refine ⟨_, rfl, neD_lst (SqL.of hA20) (SqL.of hP20) fl_ints fl_ints ⟨_, rfl, ?_⟩⟩
                  rw [eqv_ints, decide_eq_true rfl]
                  refine iteF ?_
                  exact ⟨_, _, _, _, _, _, _, _, _, _, _, _, rfl, e0.trans n20, tb20⟩
end
end K29

set_option Elab.async false
set_option maxRecDepth 100000
set_option maxHeartbeats 4000000
namespace K29
open PySem PySem.Spec PyProof.Rows L2
section
variable {P : Program} {w : World} {K : PySem.W.Frag} {mg : Str → Option Value} {base : Heap} {A : Ad}
theorem kit_ref {B C : Addr} {b : Bool} (i : PySem.W.isClsIn K C = true) (t : PySem.W.typeIn K (.ref C) = some (.type "type")) (s : PySem.W.subIn K (.ref B) (.ref C) = some b) (ss : PySem.W.subIn K (.ref B) (.ref B) = some true) : PySem.W.kitOne K (.ref B) (.ref C) = some b := by
  by_cases h : B = C
  · subst h
    rw [ss] at s
    cases s
    exact if_pos (beq_self_eq_true _)
  · have e : ((PySem.W.clsIn K C).isSome && PySem.W.typeIn K (.ref C) == some (.type "type")) = true := by
      have h1 : (PySem.W.clsIn K C).isSome = true := i
      rw [h1, t]
      rfl
    show (if (Value.ref B == Value.ref C) = true then some true else if ((PySem.W.clsIn K C).isSome && PySem.W.typeIn K (.ref C) == some (.type "type")) = true then PySem.W.subIn K (.ref B) (.ref C) else none) = some b
    rw [if_pos e]
    have hne : ¬ ((Value.ref B == Value.ref C) = true) := fun z => by
      have z' := eq_of_beq z
      injection z' with z'
      exact h z'
    rw [if_neg hne]
    exact s
theorem exm_ref {B C : Addr} {b : Bool} (x : PySem.W.subIn K (.ref C) (.type "BaseException") = some true) (i : PySem.W.isClsIn K C = true) (t : PySem.W.typeIn K (.ref C) = some (.type "type")) (s : PySem.W.subIn K (.ref B) (.ref C) = some b) : PySem.W.exmOne K (.ref B) (.ref C) = some b := by
  unfold PySem.W.exmOne PySem.W.kitCls
  have i' : (PySem.W.clsIn K C).isSome = true := i
  rw [x]
  dsimp only
  rw [i', t, s]
  rfl
theorem ve_one {W : Addr} : PySem.HandSPX.refsVE [.ref W, .type "ValueError", .type "Exception", .type "BaseException", .type "object"] = true := by
  show PySem.HandSPX.refsVE [.type "ValueError", .type "Exception", .type "BaseException", .type "object"] = true
  decide +kernel
theorem law_ok (T : Txt K mg A) (D_is_integer : DefAt K mg "is_integer" s_is_integer pm_is_integer) (D_is_between : DefAt K mg "is_between" s_is_between pm_is_between) (D_is_list : DefAt K mg "is_list" s_is_list pm_is_list) (D_is_list_of : DefAt K mg "is_list_of" s_is_list_of pm_is_list_of) (D_is_tuple_of : DefAt K mg "is_tuple_of" s_is_tuple_of pm_is_tuple_of) (D_is_begin : DefAt K mg "is_begin" s_is_begin pm_is_begin) (D_are_delays : DefAt K mg "are_delays" s_are_delays pm_are_delays) (D_is_box : DefAt K mg "is_box" s_is_box pm_is_box) (D_are_rows : DefAt K mg "are_rows" s_are_rows pm_are_rows) (D_spread_of : DefAt K mg "spread_of" s_spread_of pm_spread_of) (D_slack_of : DefAt K mg "slack_of" s_slack_of pm_slack_of) (D_check_lull : DefAt K mg "check_lull" s_check_lull pm_check_lull) (D_check_quiet : DefAt K mg "check_quiet" s_check_quiet pm_check_quiet) (D_lull_of : DefAt K mg "lull_of" s_lull_of pm_lull_of) (D__law_pool : DefAt K mg "_law_pool" s__law_pool pm__law_pool) (D__law_take : DefAt K mg "_law_take" s__law_take pm__law_take) (D__law_one : DefAt K mg "_law_one" s__law_one pm__law_one) (D__law_road : DefAt K mg "_law_road" s__law_road pm__law_road) (D__law_made : DefAt K mg "_law_made" s__law_made pm__law_made) (D__law_told : DefAt K mg "_law_told" s__law_told pm__law_told) (D__law_lull_wrong : DefAt K mg "_law_lull_wrong" s__law_lull_wrong pm__law_lull_wrong) (D__law_spoilt : DefAt K mg "_law_spoilt" s__law_spoilt pm__law_spoilt)  (D__law_road_wrong : DefAt K mg "_law_road_wrong" s__law_road_wrong pm__law_road_wrong) 
    (M_Way_window : MethAt K A.Way "window" "Way.window" s_Way_window pm_Way_window) (M_Way_eq : MethAt K A.Way "__eq__" "Way.__eq__" s_Way_eq pm_Way_eq) (M_Road_init : MethAt K A.Road "__init__" "Road.__init__" s_Road_init pm_Road_init) (M_Road_eq : MethAt K A.Road "__eq__" "Road.__eq__" s_Road_eq pm_Road_eq) (M_Lull_init : MethAt K A.Lull "__init__" "Lull.__init__" s_Lull_init pm_Lull_init) (M_Lull_eq : MethAt K A.Lull "__eq__" "Lull.__eq__" s_Lull_eq pm_Lull_eq) (m1_Road : PySem.W.makesIn K A.Road = true) (m2_Road : PySem.W.keepIn K (.ref A.Road) = true) (m1_Lull : PySem.W.makesIn K A.Lull = true) (m2_Lull : PySem.W.keepIn K (.ref A.Lull) = true)
    {fi : Addr} {fdi : FuncData} (FI : FunD K "__init__" "Way.__init__" (defArgs s_Way_init) (defBody s_Way_init) (defScope s_Way_init) [.ref A.T0] [] fi fdi) (MI : Mk K A.Way fi) (B4 : Binds K fdi pm_Way_init []) {d3 : List Value} (V3 : Vals [.ref A.T0] d3) (B3 : Binds K fdi pm_Way_init d3)
    {ts : Tb3}
    {f__law_roads_right c__law_roads_right : Addr} {oc__law_roads_right kV__law_roads_right doc__law_roads_right pmv__law_roads_right ct__law_roads_right : Value} {od__law_roads_right an__law_roads_right : Option Addr} {osl__law_roads_right : Array (Option Value)} (lk__law_roads_right : K.lookup f__law_roads_right = some ⟨oc__law_roads_right, od__law_roads_right, .func (PySem.W.fnOf "_law_roads_right" "_law_roads_right" (defArgs s__law_roads_right) (defBody s__law_roads_right) (defScope s__law_roads_right) .none kV__law_roads_right doc__law_roads_right pmv__law_roads_right an__law_roads_right (.ref c__law_roads_right) ct__law_roads_right), osl__law_roads_right⟩) (hcd__law_roads_right : PySem.W.codeIn K (.ref c__law_roads_right) "_law_roads_right" = true) (TB__law_roads_right : LamX.TabB base mg c__law_roads_right ts.p3) (mg__law_roads_right : mg "_law_roads_right" = some (.ref f__law_roads_right)) (kp__law_roads_right : PySem.W.keepIn K (.ref f__law_roads_right) = true)
    {f__law_lulls_right c__law_lulls_right : Addr} {oc__law_lulls_right kV__law_lulls_right doc__law_lulls_right pmv__law_lulls_right ct__law_lulls_right : Value} {od__law_lulls_right an__law_lulls_right : Option Addr} {osl__law_lulls_right : Array (Option Value)} (lk__law_lulls_right : K.lookup f__law_lulls_right = some ⟨oc__law_lulls_right, od__law_lulls_right, .func (PySem.W.fnOf "_law_lulls_right" "_law_lulls_right" (defArgs s__law_lulls_right) (defBody s__law_lulls_right) (defScope s__law_lulls_right) .none kV__law_lulls_right doc__law_lulls_right pmv__law_lulls_right an__law_lulls_right (.ref c__law_lulls_right) ct__law_lulls_right), osl__law_lulls_right⟩) (hcd__law_lulls_right : PySem.W.codeIn K (.ref c__law_lulls_right) "_law_lulls_right" = true) (TB__law_lulls_right : LamX.TabB base mg c__law_lulls_right ts.p2) (mg__law_lulls_right : mg "_law_lulls_right" = some (.ref f__law_lulls_right)) (kp__law_lulls_right : PySem.W.keepIn K (.ref f__law_lulls_right) = true)
    {f_law c_law : Addr} {oc_law kV_law doc_law pmv_law ct_law : Value} {od_law an_law : Option Addr} {osl_law : Array (Option Value)} (lk_law : K.lookup f_law = some ⟨oc_law, od_law, .func (PySem.W.fnOf "law" "law" (defArgs s_law) (defBody s_law) (defScope s_law) .none kV_law doc_law pmv_law an_law (.ref c_law) ct_law), osl_law⟩) (hcd_law : PySem.W.codeIn K (.ref c_law) "law" = true) (TB_law : LamX.TabB base mg c_law ts.p1):
    FnOk P w K mg base CX0 10 f_law (PySem.W.fnOf "law" "law" (defArgs s_law) (defBody s_law) (defScope s_law) .none kV_law doc_law pmv_law an_law (.ref c_law) ct_law) pm_law (spLawL K [ts.p3, ts.p2, ts.p1]) := by
  have X_BadPart : XCls P w K mg base "BadPart" "part" A.BadPart := T.BadPart.cls fun _ _ F => ok_xp F T
  have X_BadBox : XCls P w K mg base "BadBox" "index" A.BadBox := T.BadBox.cls fun _ _ F => ok_xb F T

  have O1 : Own P w K mg base CX0 "is_integer" 1 pm_is_integer (spInteger K) := D_is_integer.own fun f fd F => ok_integer F T
  have O2 : Own P w K mg base CX0 "is_between" 2 pm_is_between (spBetween K) := D_is_between.own fun f fd F => ok_between F O1
  have O3 : Own P w K mg base CX0 "is_list" 1 pm_is_list (spIsList K) := D_is_list.own fun f fd F => ok_isList F T
  have O4 : Own P w K mg base CX0 "is_list_of" 2 pm_is_list_of (spListOf K) := D_is_list_of.own fun f fd F => ok_listOf F T O3
  have O5 : Own P w K mg base CX0 "is_tuple_of" 1 pm_is_tuple_of (spTupleOf K) := D_is_tuple_of.own fun f fd F => ok_tupleOf F T
  have O6 : Own P w K mg base CX0 "is_begin" 3 pm_is_begin (spBegin K) := D_is_begin.own fun f fd F => ok_begin F T O2
  have O7 : Own P w K mg base CX0 "are_delays" 3 pm_are_delays (spDelays K) := D_are_delays.own fun f fd F => ok_delays F T O2
  have O8 : Own P w K mg base CX0 "is_box" 3 pm_is_box (spBoxOk K) := D_is_box.own fun f fd F => ok_box F T O2 O5
  have GI : FnOk P w K mg base (L2.CX P w) 5 fi fdi pm_Way_init (spWayInit K A) := ok_wayInit FI T O6 O7 O4 O8 X_BadPart X_BadBox
  have OW : OwnC P w K mg base (L2.CX P w) "Way" A.Way 5 pm_Way_init (spWayInit K A) := ⟨fi, fdi, GI, MI, T.Way.gC, B4⟩
  have OW3 : OwnCD P w K mg base (L2.CX P w) "Way" A.Way 5 pm_Way_init (spWayInit K A) [.ref A.T0] := ⟨fi, fdi, d3, GI, MI, T.Way.gC, B3, V3⟩
  have OWw : OwnM P w K mg base CX0 A.Way "window" 1 pm_Way_window (spWindow K A) := M_Way_window.own fun f fd F => ok_window F T
  have OWe : OwnM P w K mg base CX0 A.Way "__eq__" 1 pm_Way_eq (spWayEq K A) := M_Way_eq.own fun f fd F => ok_wayEq F T
  have O9 : Own P w K mg base (L2.CX P w) "check_lull" 4 pm_check_lull (spCheckLull K A) := D_check_lull.own fun f fd F => ok_checkLull F T O2 X_BadPart
  have O10 : Own P w K mg base (L2.CX P w) "check_quiet" 4 pm_check_quiet (spCheckQuiet K A) := D_check_quiet.own fun f fd F => ok_checkQuiet F T O2 X_BadPart
  have O11 : Own P w K mg base CX0 "are_rows" 3 pm_are_rows (spRows K) := D_are_rows.own fun f fd F => ok_rows F T O4 O2
  have OL : OwnC P w K mg base (L2.CX P w) "Lull" A.Lull 5 pm_Lull_init (spLullInit K A) := M_Lull_init.cls (fun f fd F => ok_lullInit F T O2 O9 O10 X_BadPart) m1_Lull m2_Lull T.Lull.gC
  have OLe : OwnM P w K mg base CX0 A.Lull "__eq__" 1 pm_Lull_eq (spLullEq K A) := M_Lull_eq.own fun f fd F => ok_lullEq F T
  have OR : OwnC P w K mg base (L2.CX P w) "Road" A.Road 5 pm_Road_init (spRoadInit K A) := M_Road_init.cls (fun f fd F => ok_roadInit F T O2 OWw O9 O10 O11 X_BadPart) m1_Road m2_Road T.Road.gC
  have ORe : OwnM P w K mg base CX0 A.Road "__eq__" 3 pm_Road_eq (spRoadEq K A) := M_Road_eq.own fun f fd F => ok_roadEq F T OWe
  have O12 : Own P w K mg base CX0 "spread_of" 1 pm_spread_of spBox := D_spread_of.own fun f fd F => ok_spread F
  have O13 : Own P w K mg base CX0 "slack_of" 2 pm_slack_of spSlack := D_slack_of.own fun f fd F => ok_slack F O12
  have O14 : Own P w K mg base CX0 "lull_of" 7 pm_lull_of (spLullOf K A) := D_lull_of.own fun f fd F => ok_lullOf F T OL
  have O17 : Own P w K mg base CX0 "_law_pool" 1 pm__law_pool (spPool K) := D__law_pool.own fun f fd F => ok_pool F T
  have O18 : Own P w K mg base CX0 "_law_take" 1 pm__law_take spTake := D__law_take.own fun f fd F => ok_take F T
  have O19 : Own P w K mg base CX0 "_law_one" 2 pm__law_one spOne := D__law_one.own fun f fd F => ok_one F T O18
  have O20 : Own P w K mg base CX0 "_law_spoilt" 3 pm__law_spoilt (spSpoilt K) := D__law_spoilt.own fun f fd F => ok_spoilt F T O18 O19
  have O21 : Own P w K mg base CX0 "_law_lull_wrong" 1 pm__law_lull_wrong spLullWrong := D__law_lull_wrong.own fun f fd F => ok_lullWrong F T
  have O22 : Own P w K mg base CX0 "_law_road_wrong" 1 pm__law_road_wrong (spRoadWrong K) := D__law_road_wrong.own fun f fd F => ok_roadWrong F T
  have O23 : Own P w K mg base CX0 "_law_road" 2 pm__law_road spRoadDraw := D__law_road.own fun f fd F => ok_road F T O18
  have O24 : Own P w K mg base CX0 "_law_made" 7 pm__law_made (spMade K A) := D__law_made.own fun f fd F => ok_made F OW OR
  have GL := ok_lullsRight (base := base) (P := P) (w := w) (ts := ts) lk__law_lulls_right hcd__law_lulls_right TB__law_lulls_right T D__law_told O20 O21 OL OLe
  have O25 : Own P w K mg base CX0 "_law_lulls_right" 9 pm__law_lulls_right (spLullsRight ts) := ⟨_, _, GL, mg__law_lulls_right, kp__law_lulls_right, (fun_mk (st := s__law_lulls_right) lk__law_lulls_right hcd__law_lulls_right kp__law_lulls_right).binds (ps := pm__law_lulls_right) fun _ _ _ _ _ _ us hl => match us, hl with | [_, _], _ => rfl⟩
  have GR := ok_roadsRight (base := base) (P := P) (w := w) (ts := ts) lk__law_roads_right hcd__law_roads_right TB__law_roads_right T D__law_told O18 O19 O20 O22 OW OR OL OLe OWe O14
  have O26 : Own P w K mg base CX0 "_law_roads_right" 9 pm__law_roads_right (spRoadsRight ts) := ⟨_, _, GR, mg__law_roads_right, kp__law_roads_right, (fun_mk (st := s__law_roads_right) lk__law_roads_right hcd__law_roads_right kp__law_roads_right).binds (ps := pm__law_roads_right) fun _ _ _ _ _ _ us hl => match us, hl with | [_, _], _ => rfl⟩
  exact ok_law (ts := ts) (PS := [ts.p3, ts.p2, ts.p1]) (fun p hp => by rcases ts.mem hp with rfl | rfl | rfl <;> simp) lk_law hcd_law TB_law T D__law_told O17 O18 O23 O25 O26 OW3 OR O24 ORe O12 O13
end
theorem all_mk {P : Program} {w : World} {K : PySem.W.Frag} {h : Heap} {mg : Str → Option Value} {fa cl__law_roads_right Pt__law_roads_right cl__law_lulls_right Pt__law_lulls_right cl_law Pt_law Td AT0 ABadPart ABadBox AWholeError AWay ARoad ALull f_is_integer f_is_between f_is_list f_is_list_of f_is_tuple_of f_is_begin f_are_delays f_is_box f_are_rows f_spread_of f_slack_of f_check_lull f_check_quiet f_lull_of f__law_pool f__law_take f__law_one f__law_road f__law_made f__law_told f__law_lull_wrong f__law_spoilt f__law_lulls_right f__law_road_wrong f__law_roads_right f_law f_BadPart_init f_BadBox_init f_Way_init f_Way_window f_Way_eq f_Road_init f_Road_eq f_Lull_init f_Lull_eq : Addr} (X : K.In h) (G : h.Ns mainGlobals mg) (hfa : mg "law" = some (.ref fa))
    {od_is_integer an_is_integer od_is_between an_is_between od_is_list an_is_list od_is_list_of an_is_list_of od_is_tuple_of an_is_tuple_of od_is_begin an_is_begin od_are_delays an_are_delays od_is_box an_is_box od_are_rows an_are_rows od_spread_of an_spread_of od_slack_of an_slack_of od_check_lull an_check_lull od_check_quiet an_check_quiet od_lull_of an_lull_of od__law_pool an__law_pool od__law_take an__law_take od__law_one an__law_one od__law_road an__law_road od__law_made an__law_made od__law_told an__law_told od__law_lull_wrong an__law_lull_wrong od__law_spoilt an__law_spoilt od__law_lulls_right an__law_lulls_right od__law_road_wrong an__law_road_wrong od__law_roads_right an__law_roads_right od_law an_law od_BadPart_init an_BadPart_init od_BadBox_init an_BadBox_init od_Way_init an_Way_init od_Way_window an_Way_window od_Way_eq an_Way_eq od_Road_init an_Road_init od_Road_eq an_Road_eq od_Lull_init an_Lull_init od_Lull_eq an_Lull_eq ddt edt : Option Addr} {sl_is_integer sl_is_between sl_is_list sl_is_list_of sl_is_tuple_of sl_is_begin sl_are_delays sl_is_box sl_are_rows sl_spread_of sl_slack_of sl_check_lull sl_check_quiet sl_lull_of sl__law_pool sl__law_take sl__law_one sl__law_road sl__law_made sl__law_told sl__law_lull_wrong sl__law_spoilt sl__law_lulls_right sl__law_road_wrong sl__law_roads_right sl_law sl_BadPart_init sl_BadBox_init sl_Way_init sl_Way_window sl_Way_eq sl_Road_init sl_Road_eq sl_Lull_init sl_Lull_eq dsl esl : Array (Option Value)} {oc_is_integer kV_is_integer dc_is_integer pm_is_integer_ cd_is_integer ct_is_integer oc_is_between kV_is_between dc_is_between pm_is_between_ cd_is_between ct_is_between oc_is_list kV_is_list dc_is_list pm_is_list_ cd_is_list ct_is_list oc_is_list_of kV_is_list_of dc_is_list_of pm_is_list_of_ cd_is_list_of ct_is_list_of oc_is_tuple_of kV_is_tuple_of dc_is_tuple_of pm_is_tuple_of_ cd_is_tuple_of ct_is_tuple_of oc_is_begin kV_is_begin dc_is_begin pm_is_begin_ cd_is_begin ct_is_begin oc_are_delays kV_are_delays dc_are_delays pm_are_delays_ cd_are_delays ct_are_delays oc_is_box kV_is_box dc_is_box pm_is_box_ cd_is_box ct_is_box oc_are_rows kV_are_rows dc_are_rows pm_are_rows_ cd_are_rows ct_are_rows oc_spread_of kV_spread_of dc_spread_of pm_spread_of_ cd_spread_of ct_spread_of oc_slack_of kV_slack_of dc_slack_of pm_slack_of_ cd_slack_of ct_slack_of oc_check_lull kV_check_lull dc_check_lull pm_check_lull_ cd_check_lull ct_check_lull oc_check_quiet kV_check_quiet dc_check_quiet pm_check_quiet_ cd_check_quiet ct_check_quiet oc_lull_of kV_lull_of dc_lull_of pm_lull_of_ cd_lull_of ct_lull_of oc__law_pool kV__law_pool dc__law_pool pm__law_pool_ cd__law_pool ct__law_pool oc__law_take kV__law_take dc__law_take pm__law_take_ cd__law_take ct__law_take oc__law_one kV__law_one dc__law_one pm__law_one_ cd__law_one ct__law_one oc__law_road kV__law_road dc__law_road pm__law_road_ cd__law_road ct__law_road oc__law_made kV__law_made dc__law_made pm__law_made_ cd__law_made ct__law_made oc__law_told kV__law_told dc__law_told pm__law_told_ cd__law_told ct__law_told oc__law_lull_wrong kV__law_lull_wrong dc__law_lull_wrong pm__law_lull_wrong_ cd__law_lull_wrong ct__law_lull_wrong oc__law_spoilt kV__law_spoilt dc__law_spoilt pm__law_spoilt_ cd__law_spoilt ct__law_spoilt oc__law_lulls_right kV__law_lulls_right dc__law_lulls_right pm__law_lulls_right_ ct__law_lulls_right oc__law_road_wrong kV__law_road_wrong dc__law_road_wrong pm__law_road_wrong_ cd__law_road_wrong ct__law_road_wrong oc__law_roads_right kV__law_roads_right dc__law_roads_right pm__law_roads_right_ ct__law_roads_right oc_law kV_law dc_law pm_law_ ct_law oc_BadPart_init kV_BadPart_init dc_BadPart_init pm_BadPart_init_ cd_BadPart_init ct_BadPart_init oc_BadBox_init kV_BadBox_init dc_BadBox_init pm_BadBox_init_ cd_BadBox_init ct_BadBox_init oc_Way_init kV_Way_init dc_Way_init pm_Way_init_ cd_Way_init ct_Way_init oc_Way_window kV_Way_window dc_Way_window pm_Way_window_ cd_Way_window ct_Way_window oc_Way_eq kV_Way_eq dc_Way_eq pm_Way_eq_ cd_Way_eq ct_Way_eq oc_Road_init kV_Road_init dc_Road_init pm_Road_init_ cd_Road_init ct_Road_init oc_Road_eq kV_Road_eq dc_Road_eq pm_Road_eq_ cd_Road_eq ct_Road_eq oc_Lull_init kV_Lull_init dc_Lull_init pm_Lull_init_ cd_Lull_init ct_Lull_init oc_Lull_eq kV_Lull_eq dc_Lull_eq pm_Lull_eq_ cd_Lull_eq ct_Lull_eq dcl : Value} {t_MOST_BEGIN t_MOST_DELAY t_MOST_BOXES t_MOST_KEEP t_MOST_TURN t_MOST_ROWS t_MOST_PARCELS t_MOST_QUIET t_MOST_LOST t_MOST_PERIOD : Tok} {dn en : Nat}
    {xBadPart_nm xBadPart_q : Str} {xBadPart_N : Addr} {xBadPart_bs : List Value} {xBadPart_sn : List Str} {xBadPart_sub : List Value} {xBadPart_ab : Bool} {xBadPart_col : Option Bool} {xBadPart_dd : Option Addr} {xBadPart_m0 xBadPart_m1 xBadPart_m2 xBadPart_m3 xBadPart_m5 : Option Value}
    {xBadBox_nm xBadBox_q : Str} {xBadBox_N : Addr} {xBadBox_bs : List Value} {xBadBox_sn : List Str} {xBadBox_sub : List Value} {xBadBox_ab : Bool} {xBadBox_col : Option Bool} {xBadBox_dd : Option Addr} {xBadBox_m0 xBadBox_m1 xBadBox_m2 xBadBox_m3 xBadBox_m5 : Option Value}
    (g_BadPart : PySem.W.nsIn K mainGlobals "BadPart" = some (some (.ref ABadPart)))
    (g_BadBox : PySem.W.nsIn K mainGlobals "BadBox" = some (some (.ref ABadBox)))
    (g_WholeError : PySem.W.nsIn K mainGlobals "WholeError" = some (some (.ref AWholeError)))
    (g_Way : PySem.W.nsIn K mainGlobals "Way" = some (some (.ref AWay)))
    (g_Road : PySem.W.nsIn K mainGlobals "Road" = some (some (.ref ARoad)))
    (g_Lull : PySem.W.nsIn K mainGlobals "Lull" = some (some (.ref ALull)))
    (a_is_integer : PySem.W.nsIn K mainGlobals "is_integer" = some (some (.ref f_is_integer)))
    (l_is_integer : K.lookup f_is_integer = some ⟨oc_is_integer, od_is_integer, .func (PySem.W.fnOf "is_integer" "is_integer" (defArgs s_is_integer) (defBody s_is_integer) (defScope s_is_integer) .none kV_is_integer dc_is_integer pm_is_integer_ an_is_integer cd_is_integer ct_is_integer), sl_is_integer⟩)
    (c_is_integer : PySem.W.codeIn K cd_is_integer "is_integer" = true)
    (k_is_integer : PySem.W.keepIn K (.ref f_is_integer) = true)
    (a_is_between : PySem.W.nsIn K mainGlobals "is_between" = some (some (.ref f_is_between)))
    (l_is_between : K.lookup f_is_between = some ⟨oc_is_between, od_is_between, .func (PySem.W.fnOf "is_between" "is_between" (defArgs s_is_between) (defBody s_is_between) (defScope s_is_between) .none kV_is_between dc_is_between pm_is_between_ an_is_between cd_is_between ct_is_between), sl_is_between⟩)
    (c_is_between : PySem.W.codeIn K cd_is_between "is_between" = true)
    (k_is_between : PySem.W.keepIn K (.ref f_is_between) = true)
    (a_is_list : PySem.W.nsIn K mainGlobals "is_list" = some (some (.ref f_is_list)))
    (l_is_list : K.lookup f_is_list = some ⟨oc_is_list, od_is_list, .func (PySem.W.fnOf "is_list" "is_list" (defArgs s_is_list) (defBody s_is_list) (defScope s_is_list) .none kV_is_list dc_is_list pm_is_list_ an_is_list cd_is_list ct_is_list), sl_is_list⟩)
    (c_is_list : PySem.W.codeIn K cd_is_list "is_list" = true)
    (k_is_list : PySem.W.keepIn K (.ref f_is_list) = true)
    (a_is_list_of : PySem.W.nsIn K mainGlobals "is_list_of" = some (some (.ref f_is_list_of)))
    (l_is_list_of : K.lookup f_is_list_of = some ⟨oc_is_list_of, od_is_list_of, .func (PySem.W.fnOf "is_list_of" "is_list_of" (defArgs s_is_list_of) (defBody s_is_list_of) (defScope s_is_list_of) .none kV_is_list_of dc_is_list_of pm_is_list_of_ an_is_list_of cd_is_list_of ct_is_list_of), sl_is_list_of⟩)
    (c_is_list_of : PySem.W.codeIn K cd_is_list_of "is_list_of" = true)
    (k_is_list_of : PySem.W.keepIn K (.ref f_is_list_of) = true)
    (a_is_tuple_of : PySem.W.nsIn K mainGlobals "is_tuple_of" = some (some (.ref f_is_tuple_of)))
    (l_is_tuple_of : K.lookup f_is_tuple_of = some ⟨oc_is_tuple_of, od_is_tuple_of, .func (PySem.W.fnOf "is_tuple_of" "is_tuple_of" (defArgs s_is_tuple_of) (defBody s_is_tuple_of) (defScope s_is_tuple_of) .none kV_is_tuple_of dc_is_tuple_of pm_is_tuple_of_ an_is_tuple_of cd_is_tuple_of ct_is_tuple_of), sl_is_tuple_of⟩)
    (c_is_tuple_of : PySem.W.codeIn K cd_is_tuple_of "is_tuple_of" = true)
    (k_is_tuple_of : PySem.W.keepIn K (.ref f_is_tuple_of) = true)
    (a_is_begin : PySem.W.nsIn K mainGlobals "is_begin" = some (some (.ref f_is_begin)))
    (l_is_begin : K.lookup f_is_begin = some ⟨oc_is_begin, od_is_begin, .func (PySem.W.fnOf "is_begin" "is_begin" (defArgs s_is_begin) (defBody s_is_begin) (defScope s_is_begin) .none kV_is_begin dc_is_begin pm_is_begin_ an_is_begin cd_is_begin ct_is_begin), sl_is_begin⟩)
    (c_is_begin : PySem.W.codeIn K cd_is_begin "is_begin" = true)
    (k_is_begin : PySem.W.keepIn K (.ref f_is_begin) = true)
    (a_are_delays : PySem.W.nsIn K mainGlobals "are_delays" = some (some (.ref f_are_delays)))
    (l_are_delays : K.lookup f_are_delays = some ⟨oc_are_delays, od_are_delays, .func (PySem.W.fnOf "are_delays" "are_delays" (defArgs s_are_delays) (defBody s_are_delays) (defScope s_are_delays) .none kV_are_delays dc_are_delays pm_are_delays_ an_are_delays cd_are_delays ct_are_delays), sl_are_delays⟩)
    (c_are_delays : PySem.W.codeIn K cd_are_delays "are_delays" = true)
    (k_are_delays : PySem.W.keepIn K (.ref f_are_delays) = true)
    (a_is_box : PySem.W.nsIn K mainGlobals "is_box" = some (some (.ref f_is_box)))
    (l_is_box : K.lookup f_is_box = some ⟨oc_is_box, od_is_box, .func (PySem.W.fnOf "is_box" "is_box" (defArgs s_is_box) (defBody s_is_box) (defScope s_is_box) .none kV_is_box dc_is_box pm_is_box_ an_is_box cd_is_box ct_is_box), sl_is_box⟩)
    (c_is_box : PySem.W.codeIn K cd_is_box "is_box" = true)
    (k_is_box : PySem.W.keepIn K (.ref f_is_box) = true)
    (a_are_rows : PySem.W.nsIn K mainGlobals "are_rows" = some (some (.ref f_are_rows)))
    (l_are_rows : K.lookup f_are_rows = some ⟨oc_are_rows, od_are_rows, .func (PySem.W.fnOf "are_rows" "are_rows" (defArgs s_are_rows) (defBody s_are_rows) (defScope s_are_rows) .none kV_are_rows dc_are_rows pm_are_rows_ an_are_rows cd_are_rows ct_are_rows), sl_are_rows⟩)
    (c_are_rows : PySem.W.codeIn K cd_are_rows "are_rows" = true)
    (k_are_rows : PySem.W.keepIn K (.ref f_are_rows) = true)
    (a_spread_of : PySem.W.nsIn K mainGlobals "spread_of" = some (some (.ref f_spread_of)))
    (l_spread_of : K.lookup f_spread_of = some ⟨oc_spread_of, od_spread_of, .func (PySem.W.fnOf "spread_of" "spread_of" (defArgs s_spread_of) (defBody s_spread_of) (defScope s_spread_of) .none kV_spread_of dc_spread_of pm_spread_of_ an_spread_of cd_spread_of ct_spread_of), sl_spread_of⟩)
    (c_spread_of : PySem.W.codeIn K cd_spread_of "spread_of" = true)
    (k_spread_of : PySem.W.keepIn K (.ref f_spread_of) = true)
    (a_slack_of : PySem.W.nsIn K mainGlobals "slack_of" = some (some (.ref f_slack_of)))
    (l_slack_of : K.lookup f_slack_of = some ⟨oc_slack_of, od_slack_of, .func (PySem.W.fnOf "slack_of" "slack_of" (defArgs s_slack_of) (defBody s_slack_of) (defScope s_slack_of) .none kV_slack_of dc_slack_of pm_slack_of_ an_slack_of cd_slack_of ct_slack_of), sl_slack_of⟩)
    (c_slack_of : PySem.W.codeIn K cd_slack_of "slack_of" = true)
    (k_slack_of : PySem.W.keepIn K (.ref f_slack_of) = true)
    (a_check_lull : PySem.W.nsIn K mainGlobals "check_lull" = some (some (.ref f_check_lull)))
    (l_check_lull : K.lookup f_check_lull = some ⟨oc_check_lull, od_check_lull, .func (PySem.W.fnOf "check_lull" "check_lull" (defArgs s_check_lull) (defBody s_check_lull) (defScope s_check_lull) .none kV_check_lull dc_check_lull pm_check_lull_ an_check_lull cd_check_lull ct_check_lull), sl_check_lull⟩)
    (c_check_lull : PySem.W.codeIn K cd_check_lull "check_lull" = true)
    (k_check_lull : PySem.W.keepIn K (.ref f_check_lull) = true)
    (a_check_quiet : PySem.W.nsIn K mainGlobals "check_quiet" = some (some (.ref f_check_quiet)))
    (l_check_quiet : K.lookup f_check_quiet = some ⟨oc_check_quiet, od_check_quiet, .func (PySem.W.fnOf "check_quiet" "check_quiet" (defArgs s_check_quiet) (defBody s_check_quiet) (defScope s_check_quiet) .none kV_check_quiet dc_check_quiet pm_check_quiet_ an_check_quiet cd_check_quiet ct_check_quiet), sl_check_quiet⟩)
    (c_check_quiet : PySem.W.codeIn K cd_check_quiet "check_quiet" = true)
    (k_check_quiet : PySem.W.keepIn K (.ref f_check_quiet) = true)
    (a_lull_of : PySem.W.nsIn K mainGlobals "lull_of" = some (some (.ref f_lull_of)))
    (l_lull_of : K.lookup f_lull_of = some ⟨oc_lull_of, od_lull_of, .func (PySem.W.fnOf "lull_of" "lull_of" (defArgs s_lull_of) (defBody s_lull_of) (defScope s_lull_of) .none kV_lull_of dc_lull_of pm_lull_of_ an_lull_of cd_lull_of ct_lull_of), sl_lull_of⟩)
    (c_lull_of : PySem.W.codeIn K cd_lull_of "lull_of" = true)
    (k_lull_of : PySem.W.keepIn K (.ref f_lull_of) = true)
    (a__law_pool : PySem.W.nsIn K mainGlobals "_law_pool" = some (some (.ref f__law_pool)))
    (l__law_pool : K.lookup f__law_pool = some ⟨oc__law_pool, od__law_pool, .func (PySem.W.fnOf "_law_pool" "_law_pool" (defArgs s__law_pool) (defBody s__law_pool) (defScope s__law_pool) .none kV__law_pool dc__law_pool pm__law_pool_ an__law_pool cd__law_pool ct__law_pool), sl__law_pool⟩)
    (c__law_pool : PySem.W.codeIn K cd__law_pool "_law_pool" = true)
    (k__law_pool : PySem.W.keepIn K (.ref f__law_pool) = true)
    (a__law_take : PySem.W.nsIn K mainGlobals "_law_take" = some (some (.ref f__law_take)))
    (l__law_take : K.lookup f__law_take = some ⟨oc__law_take, od__law_take, .func (PySem.W.fnOf "_law_take" "_law_take" (defArgs s__law_take) (defBody s__law_take) (defScope s__law_take) .none kV__law_take dc__law_take pm__law_take_ an__law_take cd__law_take ct__law_take), sl__law_take⟩)
    (c__law_take : PySem.W.codeIn K cd__law_take "_law_take" = true)
    (k__law_take : PySem.W.keepIn K (.ref f__law_take) = true)
    (a__law_one : PySem.W.nsIn K mainGlobals "_law_one" = some (some (.ref f__law_one)))
    (l__law_one : K.lookup f__law_one = some ⟨oc__law_one, od__law_one, .func (PySem.W.fnOf "_law_one" "_law_one" (defArgs s__law_one) (defBody s__law_one) (defScope s__law_one) .none kV__law_one dc__law_one pm__law_one_ an__law_one cd__law_one ct__law_one), sl__law_one⟩)
    (c__law_one : PySem.W.codeIn K cd__law_one "_law_one" = true)
    (k__law_one : PySem.W.keepIn K (.ref f__law_one) = true)
    (a__law_road : PySem.W.nsIn K mainGlobals "_law_road" = some (some (.ref f__law_road)))
    (l__law_road : K.lookup f__law_road = some ⟨oc__law_road, od__law_road, .func (PySem.W.fnOf "_law_road" "_law_road" (defArgs s__law_road) (defBody s__law_road) (defScope s__law_road) .none kV__law_road dc__law_road pm__law_road_ an__law_road cd__law_road ct__law_road), sl__law_road⟩)
    (c__law_road : PySem.W.codeIn K cd__law_road "_law_road" = true)
    (k__law_road : PySem.W.keepIn K (.ref f__law_road) = true)
    (a__law_made : PySem.W.nsIn K mainGlobals "_law_made" = some (some (.ref f__law_made)))
    (l__law_made : K.lookup f__law_made = some ⟨oc__law_made, od__law_made, .func (PySem.W.fnOf "_law_made" "_law_made" (defArgs s__law_made) (defBody s__law_made) (defScope s__law_made) .none kV__law_made dc__law_made pm__law_made_ an__law_made cd__law_made ct__law_made), sl__law_made⟩)
    (c__law_made : PySem.W.codeIn K cd__law_made "_law_made" = true)
    (k__law_made : PySem.W.keepIn K (.ref f__law_made) = true)
    (a__law_told : PySem.W.nsIn K mainGlobals "_law_told" = some (some (.ref f__law_told)))
    (l__law_told : K.lookup f__law_told = some ⟨oc__law_told, od__law_told, .func (PySem.W.fnOf "_law_told" "_law_told" (defArgs s__law_told) (defBody s__law_told) (defScope s__law_told) .none kV__law_told dc__law_told pm__law_told_ an__law_told cd__law_told ct__law_told), sl__law_told⟩)
    (c__law_told : PySem.W.codeIn K cd__law_told "_law_told" = true)
    (k__law_told : PySem.W.keepIn K (.ref f__law_told) = true)
    (a__law_lull_wrong : PySem.W.nsIn K mainGlobals "_law_lull_wrong" = some (some (.ref f__law_lull_wrong)))
    (l__law_lull_wrong : K.lookup f__law_lull_wrong = some ⟨oc__law_lull_wrong, od__law_lull_wrong, .func (PySem.W.fnOf "_law_lull_wrong" "_law_lull_wrong" (defArgs s__law_lull_wrong) (defBody s__law_lull_wrong) (defScope s__law_lull_wrong) .none kV__law_lull_wrong dc__law_lull_wrong pm__law_lull_wrong_ an__law_lull_wrong cd__law_lull_wrong ct__law_lull_wrong), sl__law_lull_wrong⟩)
    (c__law_lull_wrong : PySem.W.codeIn K cd__law_lull_wrong "_law_lull_wrong" = true)
    (k__law_lull_wrong : PySem.W.keepIn K (.ref f__law_lull_wrong) = true)
    (a__law_spoilt : PySem.W.nsIn K mainGlobals "_law_spoilt" = some (some (.ref f__law_spoilt)))
    (l__law_spoilt : K.lookup f__law_spoilt = some ⟨oc__law_spoilt, od__law_spoilt, .func (PySem.W.fnOf "_law_spoilt" "_law_spoilt" (defArgs s__law_spoilt) (defBody s__law_spoilt) (defScope s__law_spoilt) .none kV__law_spoilt dc__law_spoilt pm__law_spoilt_ an__law_spoilt cd__law_spoilt ct__law_spoilt), sl__law_spoilt⟩)
    (c__law_spoilt : PySem.W.codeIn K cd__law_spoilt "_law_spoilt" = true)
    (k__law_spoilt : PySem.W.keepIn K (.ref f__law_spoilt) = true)
    (a__law_lulls_right : PySem.W.nsIn K mainGlobals "_law_lulls_right" = some (some (.ref f__law_lulls_right)))
    (l__law_lulls_right : K.lookup f__law_lulls_right = some ⟨oc__law_lulls_right, od__law_lulls_right, .func (PySem.W.fnOf "_law_lulls_right" "_law_lulls_right" (defArgs s__law_lulls_right) (defBody s__law_lulls_right) (defScope s__law_lulls_right) .none kV__law_lulls_right dc__law_lulls_right pm__law_lulls_right_ an__law_lulls_right (.ref cl__law_lulls_right) ct__law_lulls_right), sl__law_lulls_right⟩)
    (c__law_lulls_right : PySem.W.codeIn K (.ref cl__law_lulls_right) "_law_lulls_right" = true)
    (k__law_lulls_right : PySem.W.keepIn K (.ref f__law_lulls_right) = true)
    (a__law_road_wrong : PySem.W.nsIn K mainGlobals "_law_road_wrong" = some (some (.ref f__law_road_wrong)))
    (l__law_road_wrong : K.lookup f__law_road_wrong = some ⟨oc__law_road_wrong, od__law_road_wrong, .func (PySem.W.fnOf "_law_road_wrong" "_law_road_wrong" (defArgs s__law_road_wrong) (defBody s__law_road_wrong) (defScope s__law_road_wrong) .none kV__law_road_wrong dc__law_road_wrong pm__law_road_wrong_ an__law_road_wrong cd__law_road_wrong ct__law_road_wrong), sl__law_road_wrong⟩)
    (c__law_road_wrong : PySem.W.codeIn K cd__law_road_wrong "_law_road_wrong" = true)
    (k__law_road_wrong : PySem.W.keepIn K (.ref f__law_road_wrong) = true)
    (a__law_roads_right : PySem.W.nsIn K mainGlobals "_law_roads_right" = some (some (.ref f__law_roads_right)))
    (l__law_roads_right : K.lookup f__law_roads_right = some ⟨oc__law_roads_right, od__law_roads_right, .func (PySem.W.fnOf "_law_roads_right" "_law_roads_right" (defArgs s__law_roads_right) (defBody s__law_roads_right) (defScope s__law_roads_right) .none kV__law_roads_right dc__law_roads_right pm__law_roads_right_ an__law_roads_right (.ref cl__law_roads_right) ct__law_roads_right), sl__law_roads_right⟩)
    (c__law_roads_right : PySem.W.codeIn K (.ref cl__law_roads_right) "_law_roads_right" = true)
    (k__law_roads_right : PySem.W.keepIn K (.ref f__law_roads_right) = true)
    (a_law : PySem.W.nsIn K mainGlobals "law" = some (some (.ref f_law)))
    (l_law : K.lookup f_law = some ⟨oc_law, od_law, .func (PySem.W.fnOf "law" "law" (defArgs s_law) (defBody s_law) (defScope s_law) .none kV_law dc_law pm_law_ an_law (.ref cl_law) ct_law), sl_law⟩)
    (c_law : PySem.W.codeIn K (.ref cl_law) "law" = true)
    (k_law : PySem.W.keepIn K (.ref f_law) = true)
    (hd_law : PySem.W.codeHdIn K cl_law Pt_law = true)
    (np_law : K.lookup Pt_law = none)
    (a_BadPart_init : PySem.W.findIn K (.ref ABadPart) "__init__" = some (some (.ref f_BadPart_init)))
    (i_BadPart_init : PySem.W.typeIn K (.ref f_BadPart_init) = some (.type "function"))
    (l_BadPart_init : K.lookup f_BadPart_init = some ⟨oc_BadPart_init, od_BadPart_init, .func (PySem.W.fnOf "__init__" "BadPart.__init__" (defArgs s_BadPart_init) (defBody s_BadPart_init) (defScope s_BadPart_init) .none kV_BadPart_init dc_BadPart_init pm_BadPart_init_ an_BadPart_init cd_BadPart_init ct_BadPart_init), sl_BadPart_init⟩)
    (c_BadPart_init : PySem.W.codeIn K cd_BadPart_init "BadPart.__init__" = true)
    (k_BadPart_init : PySem.W.keepIn K (.ref f_BadPart_init) = true)
    (a_BadBox_init : PySem.W.findIn K (.ref ABadBox) "__init__" = some (some (.ref f_BadBox_init)))
    (i_BadBox_init : PySem.W.typeIn K (.ref f_BadBox_init) = some (.type "function"))
    (l_BadBox_init : K.lookup f_BadBox_init = some ⟨oc_BadBox_init, od_BadBox_init, .func (PySem.W.fnOf "__init__" "BadBox.__init__" (defArgs s_BadBox_init) (defBody s_BadBox_init) (defScope s_BadBox_init) .none kV_BadBox_init dc_BadBox_init pm_BadBox_init_ an_BadBox_init cd_BadBox_init ct_BadBox_init), sl_BadBox_init⟩)
    (c_BadBox_init : PySem.W.codeIn K cd_BadBox_init "BadBox.__init__" = true)
    (k_BadBox_init : PySem.W.keepIn K (.ref f_BadBox_init) = true)
    (a_Way_init : PySem.W.findIn K (.ref AWay) "__init__" = some (some (.ref f_Way_init)))
    (i_Way_init : PySem.W.isFn K (.ref f_Way_init) = true)
    (l_Way_init : K.lookup f_Way_init = some ⟨oc_Way_init, od_Way_init, .func (PySem.W.fnOf "__init__" "Way.__init__" (defArgs s_Way_init) (defBody s_Way_init) (defScope s_Way_init) (.ref Td) kV_Way_init dc_Way_init pm_Way_init_ an_Way_init cd_Way_init ct_Way_init), sl_Way_init⟩)
    (c_Way_init : PySem.W.codeIn K cd_Way_init "Way.__init__" = true)
    (k_Way_init : PySem.W.keepIn K (.ref f_Way_init) = true)
    (a_Way_window : PySem.W.findIn K (.ref AWay) "window" = some (some (.ref f_Way_window)))
    (i_Way_window : PySem.W.isFn K (.ref f_Way_window) = true)
    (l_Way_window : K.lookup f_Way_window = some ⟨oc_Way_window, od_Way_window, .func (PySem.W.fnOf "window" "Way.window" (defArgs s_Way_window) (defBody s_Way_window) (defScope s_Way_window) .none kV_Way_window dc_Way_window pm_Way_window_ an_Way_window cd_Way_window ct_Way_window), sl_Way_window⟩)
    (c_Way_window : PySem.W.codeIn K cd_Way_window "Way.window" = true)
    (k_Way_window : PySem.W.keepIn K (.ref f_Way_window) = true)
    (a_Way_eq : PySem.W.findIn K (.ref AWay) "__eq__" = some (some (.ref f_Way_eq)))
    (i_Way_eq : PySem.W.isFn K (.ref f_Way_eq) = true)
    (l_Way_eq : K.lookup f_Way_eq = some ⟨oc_Way_eq, od_Way_eq, .func (PySem.W.fnOf "__eq__" "Way.__eq__" (defArgs s_Way_eq) (defBody s_Way_eq) (defScope s_Way_eq) .none kV_Way_eq dc_Way_eq pm_Way_eq_ an_Way_eq cd_Way_eq ct_Way_eq), sl_Way_eq⟩)
    (c_Way_eq : PySem.W.codeIn K cd_Way_eq "Way.__eq__" = true)
    (k_Way_eq : PySem.W.keepIn K (.ref f_Way_eq) = true)
    (a_Road_init : PySem.W.findIn K (.ref ARoad) "__init__" = some (some (.ref f_Road_init)))
    (i_Road_init : PySem.W.isFn K (.ref f_Road_init) = true)
    (l_Road_init : K.lookup f_Road_init = some ⟨oc_Road_init, od_Road_init, .func (PySem.W.fnOf "__init__" "Road.__init__" (defArgs s_Road_init) (defBody s_Road_init) (defScope s_Road_init) .none kV_Road_init dc_Road_init pm_Road_init_ an_Road_init cd_Road_init ct_Road_init), sl_Road_init⟩)
    (c_Road_init : PySem.W.codeIn K cd_Road_init "Road.__init__" = true)
    (k_Road_init : PySem.W.keepIn K (.ref f_Road_init) = true)
    (a_Road_eq : PySem.W.findIn K (.ref ARoad) "__eq__" = some (some (.ref f_Road_eq)))
    (i_Road_eq : PySem.W.isFn K (.ref f_Road_eq) = true)
    (l_Road_eq : K.lookup f_Road_eq = some ⟨oc_Road_eq, od_Road_eq, .func (PySem.W.fnOf "__eq__" "Road.__eq__" (defArgs s_Road_eq) (defBody s_Road_eq) (defScope s_Road_eq) .none kV_Road_eq dc_Road_eq pm_Road_eq_ an_Road_eq cd_Road_eq ct_Road_eq), sl_Road_eq⟩)
    (c_Road_eq : PySem.W.codeIn K cd_Road_eq "Road.__eq__" = true)
    (k_Road_eq : PySem.W.keepIn K (.ref f_Road_eq) = true)
    (a_Lull_init : PySem.W.findIn K (.ref ALull) "__init__" = some (some (.ref f_Lull_init)))
    (i_Lull_init : PySem.W.isFn K (.ref f_Lull_init) = true)
    (l_Lull_init : K.lookup f_Lull_init = some ⟨oc_Lull_init, od_Lull_init, .func (PySem.W.fnOf "__init__" "Lull.__init__" (defArgs s_Lull_init) (defBody s_Lull_init) (defScope s_Lull_init) .none kV_Lull_init dc_Lull_init pm_Lull_init_ an_Lull_init cd_Lull_init ct_Lull_init), sl_Lull_init⟩)
    (c_Lull_init : PySem.W.codeIn K cd_Lull_init "Lull.__init__" = true)
    (k_Lull_init : PySem.W.keepIn K (.ref f_Lull_init) = true)
    (a_Lull_eq : PySem.W.findIn K (.ref ALull) "__eq__" = some (some (.ref f_Lull_eq)))
    (i_Lull_eq : PySem.W.isFn K (.ref f_Lull_eq) = true)
    (l_Lull_eq : K.lookup f_Lull_eq = some ⟨oc_Lull_eq, od_Lull_eq, .func (PySem.W.fnOf "__eq__" "Lull.__eq__" (defArgs s_Lull_eq) (defBody s_Lull_eq) (defScope s_Lull_eq) .none kV_Lull_eq dc_Lull_eq pm_Lull_eq_ an_Lull_eq cd_Lull_eq ct_Lull_eq), sl_Lull_eq⟩)
    (c_Lull_eq : PySem.W.codeIn K cd_Lull_eq "Lull.__eq__" = true)
    (k_Lull_eq : PySem.W.keepIn K (.ref f_Lull_eq) = true)
    (d_T : K.lookup Td = some ⟨dcl, ddt, .seq #[.ref AT0] dn, dsl⟩)
    (d_0 : K.lookup AT0 = some ⟨.type "tuple", edt, .seq #[] en, esl⟩)
    (n_isinstance : PySem.W.nsIn K mainGlobals "isinstance" = some none)
    (n_int : PySem.W.nsIn K mainGlobals "int" = some none)
    (n_bool : PySem.W.nsIn K mainGlobals "bool" = some none)
    (n_list : PySem.W.nsIn K mainGlobals "list" = some none)
    (n_tuple : PySem.W.nsIn K mainGlobals "tuple" = some none)
    (n_len : PySem.W.nsIn K mainGlobals "len" = some none)
    (n_range : PySem.W.nsIn K mainGlobals "range" = some none)
    (n_max : PySem.W.nsIn K mainGlobals "max" = some none)
    (n_min : PySem.W.nsIn K mainGlobals "min" = some none)
    (n_enumerate : PySem.W.nsIn K mainGlobals "enumerate" = some none)
    (n_all : PySem.W.nsIn K mainGlobals "all" = some none)
    (v_MOST_BEGIN : PySem.W.nsIn K mainGlobals "MOST_BEGIN" = some (some (.int 1000 t_MOST_BEGIN)))
    (v_MOST_DELAY : PySem.W.nsIn K mainGlobals "MOST_DELAY" = some (some (.int 50 t_MOST_DELAY)))
    (v_MOST_BOXES : PySem.W.nsIn K mainGlobals "MOST_BOXES" = some (some (.int 3 t_MOST_BOXES)))
    (v_MOST_KEEP : PySem.W.nsIn K mainGlobals "MOST_KEEP" = some (some (.int 10000 t_MOST_KEEP)))
    (v_MOST_TURN : PySem.W.nsIn K mainGlobals "MOST_TURN" = some (some (.int 200 t_MOST_TURN)))
    (v_MOST_ROWS : PySem.W.nsIn K mainGlobals "MOST_ROWS" = some (some (.int 3 t_MOST_ROWS)))
    (v_MOST_PARCELS : PySem.W.nsIn K mainGlobals "MOST_PARCELS" = some (some (.int 600 t_MOST_PARCELS)))
    (v_MOST_QUIET : PySem.W.nsIn K mainGlobals "MOST_QUIET" = some (some (.int 500 t_MOST_QUIET)))
    (v_MOST_LOST : PySem.W.nsIn K mainGlobals "MOST_LOST" = some (some (.int 3 t_MOST_LOST)))
    (v_MOST_PERIOD : PySem.W.nsIn K mainGlobals "MOST_PERIOD" = some (some (.int 200 t_MOST_PERIOD)))
    (s_hn : PySem.W.specialIn K (.builtin "object.__class__") "__get__" = some (some (.builtin "getset_descriptor.__get__")))
    (s_tk : PySem.W.takesIn K (.builtin "object.__class__") = some true)
    (pg_Way : PySem.W.plainGet K AWay Str.empty = true)
    (hd_Way : PySem.W.hasDictIn K AWay = true)
    (po_Way : PySem.W.plainOver K AWay = true)
    (sa_Way : PySem.W.findIn K (.ref AWay) "__setattr__" = some (some (.builtin "object.__setattr__")))
    (ha_Way : PySem.W.findIn K (.ref AWay) "__class__" = some (some (.builtin "object.__class__")))
    (hm_Way : PySem.W.mroIn K AWay (.type "object") = some true)
    (ne_Way : PySem.W.findIn K (.ref AWay) "__ne__" = some (some (.builtin "object.__ne__")))
    (is_Way : PySem.W.isClsIn K AWay = true)
    (ty_Way : PySem.W.typeIn K (.ref AWay) = some (.type "type"))
    (tup_Way : PySem.W.subIn K (.ref AWay) (.type "tuple") = some false)
    (lst_Way : PySem.W.subIn K (.ref AWay) (.type "list") = some false)
    (int_Way : PySem.W.subIn K (.ref AWay) (.type "int") = some false)
    (str_Way : PySem.W.subIn K (.ref AWay) (.type "str") = some false)
    (mk_Way : PySem.W.makesIn K AWay = true)
    (kc_Way : PySem.W.keepIn K (.ref AWay) = true)
    (na_Way_begin : PySem.W.findIn K (.ref AWay) "begin" = some none)
    (na_Way_least : PySem.W.findIn K (.ref AWay) "least" = some none)
    (na_Way_most : PySem.W.findIn K (.ref AWay) "most" = some none)
    (na_Way_boxes : PySem.W.findIn K (.ref AWay) "boxes" = some none)
    (pg_Road : PySem.W.plainGet K ARoad Str.empty = true)
    (hd_Road : PySem.W.hasDictIn K ARoad = true)
    (po_Road : PySem.W.plainOver K ARoad = true)
    (sa_Road : PySem.W.findIn K (.ref ARoad) "__setattr__" = some (some (.builtin "object.__setattr__")))
    (ha_Road : PySem.W.findIn K (.ref ARoad) "__class__" = some (some (.builtin "object.__class__")))
    (hm_Road : PySem.W.mroIn K ARoad (.type "object") = some true)
    (ne_Road : PySem.W.findIn K (.ref ARoad) "__ne__" = some (some (.builtin "object.__ne__")))
    (is_Road : PySem.W.isClsIn K ARoad = true)
    (ty_Road : PySem.W.typeIn K (.ref ARoad) = some (.type "type"))
    (tup_Road : PySem.W.subIn K (.ref ARoad) (.type "tuple") = some false)
    (lst_Road : PySem.W.subIn K (.ref ARoad) (.type "list") = some false)
    (int_Road : PySem.W.subIn K (.ref ARoad) (.type "int") = some false)
    (str_Road : PySem.W.subIn K (.ref ARoad) (.type "str") = some false)
    (mk_Road : PySem.W.makesIn K ARoad = true)
    (kc_Road : PySem.W.keepIn K (.ref ARoad) = true)
    (na_Road_way : PySem.W.findIn K (.ref ARoad) "way" = some none)
    (na_Road_last : PySem.W.findIn K (.ref ARoad) "last" = some none)
    (na_Road_turn : PySem.W.findIn K (.ref ARoad) "turn" = some none)
    (na_Road_losses : PySem.W.findIn K (.ref ARoad) "losses" = some none)
    (na_Road_rows : PySem.W.findIn K (.ref ARoad) "rows" = some none)
    (na_Road_quiet : PySem.W.findIn K (.ref ARoad) "quiet" = some none)
    (na_Road_period : PySem.W.findIn K (.ref ARoad) "period" = some none)
    (pg_Lull : PySem.W.plainGet K ALull Str.empty = true)
    (hd_Lull : PySem.W.hasDictIn K ALull = true)
    (po_Lull : PySem.W.plainOver K ALull = true)
    (sa_Lull : PySem.W.findIn K (.ref ALull) "__setattr__" = some (some (.builtin "object.__setattr__")))
    (ha_Lull : PySem.W.findIn K (.ref ALull) "__class__" = some (some (.builtin "object.__class__")))
    (hm_Lull : PySem.W.mroIn K ALull (.type "object") = some true)
    (ne_Lull : PySem.W.findIn K (.ref ALull) "__ne__" = some (some (.builtin "object.__ne__")))
    (is_Lull : PySem.W.isClsIn K ALull = true)
    (ty_Lull : PySem.W.typeIn K (.ref ALull) = some (.type "type"))
    (tup_Lull : PySem.W.subIn K (.ref ALull) (.type "tuple") = some false)
    (lst_Lull : PySem.W.subIn K (.ref ALull) (.type "list") = some false)
    (int_Lull : PySem.W.subIn K (.ref ALull) (.type "int") = some false)
    (str_Lull : PySem.W.subIn K (.ref ALull) (.type "str") = some false)
    (mk_Lull : PySem.W.makesIn K ALull = true)
    (kc_Lull : PySem.W.keepIn K (.ref ALull) = true)
    (na_Lull_delay : PySem.W.findIn K (.ref ALull) "delay" = some none)
    (na_Lull_turn : PySem.W.findIn K (.ref ALull) "turn" = some none)
    (na_Lull_losses : PySem.W.findIn K (.ref ALull) "losses" = some none)
    (na_Lull_quiet : PySem.W.findIn K (.ref ALull) "quiet" = some none)
    (xBadPart_L : K.lookup ABadPart = some (excClassObj xBadPart_nm xBadPart_q ABadPart xBadPart_N xBadPart_bs [.ref AWholeError, .type "ValueError", .type "Exception", .type "BaseException", .type "object"] true xBadPart_sn xBadPart_sub xBadPart_ab xBadPart_col xBadPart_dd xBadPart_m0 xBadPart_m1 xBadPart_m2 xBadPart_m3 xBadPart_m5 "ValueError.__new__"))
    (xBadPart_sa : PySem.W.findIn K (.ref ABadPart) "__setattr__" = some (some (.builtin "object.__setattr__")))
    (xBadPart_ex : PySem.W.subIn K (.ref ABadPart) (.type "BaseException") = some true)
    (xBadPart_ty : PySem.W.typeIn K (.ref ABadPart) = some (.type "type"))
    (xBadPart_kC : PySem.W.keepIn K (.ref ABadPart) = true)
    (xBadPart_noA : PySem.W.findIn K (.ref ABadPart) "part" = some none)
    (xBadPart_hg : PySem.W.findIn K (.ref ABadPart) "__getattribute__" = some (some (.builtin "BaseException.__getattribute__")))
    (xBadPart_hk : PySem.W.findIn K (.ref ABadPart) "__getattr__" = some none)
    (xBadPart_hd : PySem.W.hasDictIn K ABadPart = true)
    (xBadPart_ha : PySem.W.findIn K (.ref ABadPart) "__class__" = some (some (.builtin "object.__class__")))
    (xBadPart_hm : PySem.W.mroIn K ABadPart (.type "object") = some true)
    (xBadPart_is : PySem.W.isClsIn K ABadPart = true)
    (xBadPart_ss : PySem.W.subIn K (.ref ABadPart) (.ref ABadPart) = some true)
    (xBadPart_w : PySem.W.subIn K (.ref ABadPart) (.ref AWholeError) = some true)
    (xBadBox_L : K.lookup ABadBox = some (excClassObj xBadBox_nm xBadBox_q ABadBox xBadBox_N xBadBox_bs [.ref AWholeError, .type "ValueError", .type "Exception", .type "BaseException", .type "object"] true xBadBox_sn xBadBox_sub xBadBox_ab xBadBox_col xBadBox_dd xBadBox_m0 xBadBox_m1 xBadBox_m2 xBadBox_m3 xBadBox_m5 "ValueError.__new__"))
    (xBadBox_sa : PySem.W.findIn K (.ref ABadBox) "__setattr__" = some (some (.builtin "object.__setattr__")))
    (xBadBox_ex : PySem.W.subIn K (.ref ABadBox) (.type "BaseException") = some true)
    (xBadBox_ty : PySem.W.typeIn K (.ref ABadBox) = some (.type "type"))
    (xBadBox_kC : PySem.W.keepIn K (.ref ABadBox) = true)
    (xBadBox_noA : PySem.W.findIn K (.ref ABadBox) "index" = some none)
    (xBadBox_hg : PySem.W.findIn K (.ref ABadBox) "__getattribute__" = some (some (.builtin "BaseException.__getattribute__")))
    (xBadBox_hk : PySem.W.findIn K (.ref ABadBox) "__getattr__" = some none)
    (xBadBox_hd : PySem.W.hasDictIn K ABadBox = true)
    (xBadBox_ha : PySem.W.findIn K (.ref ABadBox) "__class__" = some (some (.builtin "object.__class__")))
    (xBadBox_hm : PySem.W.mroIn K ABadBox (.type "object") = some true)
    (xBadBox_is : PySem.W.isClsIn K ABadBox = true)
    (xBadBox_ss : PySem.W.subIn K (.ref ABadBox) (.ref ABadBox) = some true)
    (xBadBox_w : PySem.W.subIn K (.ref ABadBox) (.ref AWholeError) = some true)
    (xw_i : PySem.W.isClsIn K AWholeError = true)
    (xw_t : PySem.W.typeIn K (.ref AWholeError) = some (.type "type"))
    (xw_b : PySem.W.subIn K (.ref AWholeError) (.type "BaseException") = some true)
    (hd__law_roads_right : PySem.W.codeHdIn K cl__law_roads_right Pt__law_roads_right = true) (np__law_roads_right : K.lookup Pt__law_roads_right = none)
    (hd__law_lulls_right : PySem.W.codeHdIn K cl__law_lulls_right Pt__law_lulls_right = true) (np__law_lulls_right : K.lookup Pt__law_lulls_right = none)
    (nq_0 : Pt__law_roads_right ≠ Pt__law_lulls_right)
    (nq_1 : Pt__law_roads_right ≠ Pt_law)
    (nq_2 : Pt__law_lulls_right ≠ Pt_law)
    : ∃ (cs : List (Addr × Addr)) (fd : FuncData), (∀ p ∈ cs, K.lookup p.2 = none) ∧ (∀ p ∈ cs, PySem.W.CodeHd h p.1 p.2) ∧ cs.map (·.2) = [Pt__law_roads_right, Pt__law_lulls_right, Pt_law] ∧ (∀ (s : Shared) (v : Value), BindsTo s fd ⟨[v], []⟩ [("_law_script", v)]) ∧ ∀ base : Heap, K.In base → base.Ns mainGlobals mg → (∀ p ∈ cs, LamX.TabB base mg p.1 p.2) → FnOk P w K mg base CX0 10 fa fd ["_law_script"] (spLawL K [Pt__law_roads_right, Pt__law_lulls_right, Pt_law]) := by
  have e := hfa.symm.trans (PySem.W.mg_of X G a_law)
  cases e
  have F_is_integer := fun_mk (st := s_is_integer) l_is_integer c_is_integer k_is_integer
  have D_is_integer : DefAt K mg "is_integer" s_is_integer pm_is_integer := ⟨_, _, F_is_integer, PySem.W.mg_of X G a_is_integer, F_is_integer.binds (ps := pm_is_integer) fun _ _ _ _ _ _ us hl => match us, hl with | [_], _ => rfl⟩
  have F_is_between := fun_mk (st := s_is_between) l_is_between c_is_between k_is_between
  have D_is_between : DefAt K mg "is_between" s_is_between pm_is_between := ⟨_, _, F_is_between, PySem.W.mg_of X G a_is_between, F_is_between.binds (ps := pm_is_between) fun _ _ _ _ _ _ us hl => match us, hl with | [_, _, _], _ => rfl⟩
  have F_is_list := fun_mk (st := s_is_list) l_is_list c_is_list k_is_list
  have D_is_list : DefAt K mg "is_list" s_is_list pm_is_list := ⟨_, _, F_is_list, PySem.W.mg_of X G a_is_list, F_is_list.binds (ps := pm_is_list) fun _ _ _ _ _ _ us hl => match us, hl with | [_], _ => rfl⟩
  have F_is_list_of := fun_mk (st := s_is_list_of) l_is_list_of c_is_list_of k_is_list_of
  have D_is_list_of : DefAt K mg "is_list_of" s_is_list_of pm_is_list_of := ⟨_, _, F_is_list_of, PySem.W.mg_of X G a_is_list_of, F_is_list_of.binds (ps := pm_is_list_of) fun _ _ _ _ _ _ us hl => match us, hl with | [_, _, _], _ => rfl⟩
  have F_is_tuple_of := fun_mk (st := s_is_tuple_of) l_is_tuple_of c_is_tuple_of k_is_tuple_of
  have D_is_tuple_of : DefAt K mg "is_tuple_of" s_is_tuple_of pm_is_tuple_of := ⟨_, _, F_is_tuple_of, PySem.W.mg_of X G a_is_tuple_of, F_is_tuple_of.binds (ps := pm_is_tuple_of) fun _ _ _ _ _ _ us hl => match us, hl with | [_, _], _ => rfl⟩
  have F_is_begin := fun_mk (st := s_is_begin) l_is_begin c_is_begin k_is_begin
  have D_is_begin : DefAt K mg "is_begin" s_is_begin pm_is_begin := ⟨_, _, F_is_begin, PySem.W.mg_of X G a_is_begin, F_is_begin.binds (ps := pm_is_begin) fun _ _ _ _ _ _ us hl => match us, hl with | [_], _ => rfl⟩
  have F_are_delays := fun_mk (st := s_are_delays) l_are_delays c_are_delays k_are_delays
  have D_are_delays : DefAt K mg "are_delays" s_are_delays pm_are_delays := ⟨_, _, F_are_delays, PySem.W.mg_of X G a_are_delays, F_are_delays.binds (ps := pm_are_delays) fun _ _ _ _ _ _ us hl => match us, hl with | [_, _], _ => rfl⟩
  have F_is_box := fun_mk (st := s_is_box) l_is_box c_is_box k_is_box
  have D_is_box : DefAt K mg "is_box" s_is_box pm_is_box := ⟨_, _, F_is_box, PySem.W.mg_of X G a_is_box, F_is_box.binds (ps := pm_is_box) fun _ _ _ _ _ _ us hl => match us, hl with | [_, _, _], _ => rfl⟩
  have F_are_rows := fun_mk (st := s_are_rows) l_are_rows c_are_rows k_are_rows
  have D_are_rows : DefAt K mg "are_rows" s_are_rows pm_are_rows := ⟨_, _, F_are_rows, PySem.W.mg_of X G a_are_rows, F_are_rows.binds (ps := pm_are_rows) fun _ _ _ _ _ _ us hl => match us, hl with | [_], _ => rfl⟩
  have F_spread_of := fun_mk (st := s_spread_of) l_spread_of c_spread_of k_spread_of
  have D_spread_of : DefAt K mg "spread_of" s_spread_of pm_spread_of := ⟨_, _, F_spread_of, PySem.W.mg_of X G a_spread_of, F_spread_of.binds (ps := pm_spread_of) fun _ _ _ _ _ _ us hl => match us, hl with | [_], _ => rfl⟩
  have F_slack_of := fun_mk (st := s_slack_of) l_slack_of c_slack_of k_slack_of
  have D_slack_of : DefAt K mg "slack_of" s_slack_of pm_slack_of := ⟨_, _, F_slack_of, PySem.W.mg_of X G a_slack_of, F_slack_of.binds (ps := pm_slack_of) fun _ _ _ _ _ _ us hl => match us, hl with | [_], _ => rfl⟩
  have F_check_lull := fun_mk (st := s_check_lull) l_check_lull c_check_lull k_check_lull
  have D_check_lull : DefAt K mg "check_lull" s_check_lull pm_check_lull := ⟨_, _, F_check_lull, PySem.W.mg_of X G a_check_lull, F_check_lull.binds (ps := pm_check_lull) fun _ _ _ _ _ _ us hl => match us, hl with | [_, _, _], _ => rfl⟩
  have F_check_quiet := fun_mk (st := s_check_quiet) l_check_quiet c_check_quiet k_check_quiet
  have D_check_quiet : DefAt K mg "check_quiet" s_check_quiet pm_check_quiet := ⟨_, _, F_check_quiet, PySem.W.mg_of X G a_check_quiet, F_check_quiet.binds (ps := pm_check_quiet) fun _ _ _ _ _ _ us hl => match us, hl with | [_], _ => rfl⟩
  have F_lull_of := fun_mk (st := s_lull_of) l_lull_of c_lull_of k_lull_of
  have D_lull_of : DefAt K mg "lull_of" s_lull_of pm_lull_of := ⟨_, _, F_lull_of, PySem.W.mg_of X G a_lull_of, F_lull_of.binds (ps := pm_lull_of) fun _ _ _ _ _ _ us hl => match us, hl with | [_], _ => rfl⟩
  have F__law_pool := fun_mk (st := s__law_pool) l__law_pool c__law_pool k__law_pool
  have D__law_pool : DefAt K mg "_law_pool" s__law_pool pm__law_pool := ⟨_, _, F__law_pool, PySem.W.mg_of X G a__law_pool, F__law_pool.binds (ps := pm__law_pool) fun _ _ _ _ _ _ us hl => match us, hl with | [_, _], _ => rfl⟩
  have F__law_take := fun_mk (st := s__law_take) l__law_take c__law_take k__law_take
  have D__law_take : DefAt K mg "_law_take" s__law_take pm__law_take := ⟨_, _, F__law_take, PySem.W.mg_of X G a__law_take, F__law_take.binds (ps := pm__law_take) fun _ _ _ _ _ _ us hl => match us, hl with | [_, _], _ => rfl⟩
  have F__law_one := fun_mk (st := s__law_one) l__law_one c__law_one k__law_one
  have D__law_one : DefAt K mg "_law_one" s__law_one pm__law_one := ⟨_, _, F__law_one, PySem.W.mg_of X G a__law_one, F__law_one.binds (ps := pm__law_one) fun _ _ _ _ _ _ us hl => match us, hl with | [_, _], _ => rfl⟩
  have F__law_road := fun_mk (st := s__law_road) l__law_road c__law_road k__law_road
  have D__law_road : DefAt K mg "_law_road" s__law_road pm__law_road := ⟨_, _, F__law_road, PySem.W.mg_of X G a__law_road, F__law_road.binds (ps := pm__law_road) fun _ _ _ _ _ _ us hl => match us, hl with | [_, _], _ => rfl⟩
  have F__law_made := fun_mk (st := s__law_made) l__law_made c__law_made k__law_made
  have D__law_made : DefAt K mg "_law_made" s__law_made pm__law_made := ⟨_, _, F__law_made, PySem.W.mg_of X G a__law_made, F__law_made.binds (ps := pm__law_made) fun _ _ _ _ _ _ us hl => match us, hl with | [_], _ => rfl⟩
  have F__law_told := fun_mk (st := s__law_told) l__law_told c__law_told k__law_told
  have D__law_told : DefAt K mg "_law_told" s__law_told pm__law_told := ⟨_, _, F__law_told, PySem.W.mg_of X G a__law_told, F__law_told.binds (ps := pm__law_told) fun _ _ _ _ _ _ us hl => match us, hl with | [_], _ => rfl⟩
  have F__law_lull_wrong := fun_mk (st := s__law_lull_wrong) l__law_lull_wrong c__law_lull_wrong k__law_lull_wrong
  have D__law_lull_wrong : DefAt K mg "_law_lull_wrong" s__law_lull_wrong pm__law_lull_wrong := ⟨_, _, F__law_lull_wrong, PySem.W.mg_of X G a__law_lull_wrong, F__law_lull_wrong.binds (ps := pm__law_lull_wrong) fun _ _ _ _ _ _ us hl => match us, hl with | [_], _ => rfl⟩
  have F__law_spoilt := fun_mk (st := s__law_spoilt) l__law_spoilt c__law_spoilt k__law_spoilt
  have D__law_spoilt : DefAt K mg "_law_spoilt" s__law_spoilt pm__law_spoilt := ⟨_, _, F__law_spoilt, PySem.W.mg_of X G a__law_spoilt, F__law_spoilt.binds (ps := pm__law_spoilt) fun _ _ _ _ _ _ us hl => match us, hl with | [_, _], _ => rfl⟩
  have F__law_road_wrong := fun_mk (st := s__law_road_wrong) l__law_road_wrong c__law_road_wrong k__law_road_wrong
  have D__law_road_wrong : DefAt K mg "_law_road_wrong" s__law_road_wrong pm__law_road_wrong := ⟨_, _, F__law_road_wrong, PySem.W.mg_of X G a__law_road_wrong, F__law_road_wrong.binds (ps := pm__law_road_wrong) fun _ _ _ _ _ _ us hl => match us, hl with | [_, _], _ => rfl⟩
  have F_BadPart_init := fun_mk (st := s_BadPart_init) l_BadPart_init c_BadPart_init k_BadPart_init
  have F_BadBox_init := fun_mk (st := s_BadBox_init) l_BadBox_init c_BadBox_init k_BadBox_init
  have FI : FunD K "__init__" "Way.__init__" (defArgs s_Way_init) (defBody s_Way_init) (defScope s_Way_init) [.ref AT0] [] f_Way_init _ := ⟨⟨_, _, _, _, _, _, _, _, _, _, rfl, l_Way_init, c_Way_init, .inr ⟨(fun z => nomatch z), Td, _, [.ref AT0], dn, rfl, d_T, rfl, .cons rfl .nil⟩, .inl rfl⟩, k_Way_init⟩
  obtain ⟨d4, v4, B4⟩ := FI.binds1 (ps := pm_Way_init) 5 1 (fun z => nomatch z) rfl (fun T kV doc pm an cdv ct us its hu hi => match us, hu, its, hi with | [_, _, _, _, _], _, [_], _ => ⟨_, rfl, rfl⟩)
  obtain ⟨d3, v3, B3⟩ := FI.binds1 (ps := pm_Way_init) 4 0 (fun z => nomatch z) rfl (fun T kV doc pm an cdv ct us its hu hi => match us, hu, its, hi with | [_, _, _, _], _, [_], _ => ⟨_, rfl, rfl⟩)
  cases v4
  have F_Way_window := fun_mk (st := s_Way_window) l_Way_window c_Way_window k_Way_window
  have M_Way_window : MethAt K AWay "window" "Way.window" s_Way_window pm_Way_window := ⟨_, _, F_Way_window, a_Way_window, i_Way_window, F_Way_window.binds (ps := pm_Way_window) fun _ _ _ _ _ _ us hl => match us, hl with | [_], _ => rfl⟩
  have F_Way_eq := fun_mk (st := s_Way_eq) l_Way_eq c_Way_eq k_Way_eq
  have M_Way_eq : MethAt K AWay "__eq__" "Way.__eq__" s_Way_eq pm_Way_eq := ⟨_, _, F_Way_eq, a_Way_eq, i_Way_eq, F_Way_eq.binds (ps := pm_Way_eq) fun _ _ _ _ _ _ us hl => match us, hl with | [_, _], _ => rfl⟩
  have F_Road_init := fun_mk (st := s_Road_init) l_Road_init c_Road_init k_Road_init
  have M_Road_init : MethAt K ARoad "__init__" "Road.__init__" s_Road_init pm_Road_init := ⟨_, _, F_Road_init, a_Road_init, i_Road_init, F_Road_init.binds (ps := pm_Road_init) fun _ _ _ _ _ _ us hl => match us, hl with | [_, _, _, _, _, _, _, _], _ => rfl⟩
  have F_Road_eq := fun_mk (st := s_Road_eq) l_Road_eq c_Road_eq k_Road_eq
  have M_Road_eq : MethAt K ARoad "__eq__" "Road.__eq__" s_Road_eq pm_Road_eq := ⟨_, _, F_Road_eq, a_Road_eq, i_Road_eq, F_Road_eq.binds (ps := pm_Road_eq) fun _ _ _ _ _ _ us hl => match us, hl with | [_, _], _ => rfl⟩
  have F_Lull_init := fun_mk (st := s_Lull_init) l_Lull_init c_Lull_init k_Lull_init
  have M_Lull_init : MethAt K ALull "__init__" "Lull.__init__" s_Lull_init pm_Lull_init := ⟨_, _, F_Lull_init, a_Lull_init, i_Lull_init, F_Lull_init.binds (ps := pm_Lull_init) fun _ _ _ _ _ _ us hl => match us, hl with | [_, _, _, _, _], _ => rfl⟩
  have F_Lull_eq := fun_mk (st := s_Lull_eq) l_Lull_eq c_Lull_eq k_Lull_eq
  have M_Lull_eq : MethAt K ALull "__eq__" "Lull.__eq__" s_Lull_eq pm_Lull_eq := ⟨_, _, F_Lull_eq, a_Lull_eq, i_Lull_eq, F_Lull_eq.binds (ps := pm_Lull_eq) fun _ _ _ _ _ _ us hl => match us, hl with | [_, _], _ => rfl⟩
  have T : Txt K mg ⟨ABadPart, ABadBox, AWholeError, AWay, ARoad, ALull, AT0⟩ :=
    { n_isinstance := PySem.W.mg_none_of X G n_isinstance,
      n_int := PySem.W.mg_none_of X G n_int,
      n_bool := PySem.W.mg_none_of X G n_bool,
      n_list := PySem.W.mg_none_of X G n_list,
      n_tuple := PySem.W.mg_none_of X G n_tuple,
      n_len := PySem.W.mg_none_of X G n_len,
      n_range := PySem.W.mg_none_of X G n_range,
      n_max := PySem.W.mg_none_of X G n_max,
      n_min := PySem.W.mg_none_of X G n_min,
      n_enumerate := PySem.W.mg_none_of X G n_enumerate,
      n_all := PySem.W.mg_none_of X G n_all,
      g_MOST_BEGIN := ⟨_, PySem.W.mg_of X G v_MOST_BEGIN⟩,
      g_MOST_DELAY := ⟨_, PySem.W.mg_of X G v_MOST_DELAY⟩,
      g_MOST_BOXES := ⟨_, PySem.W.mg_of X G v_MOST_BOXES⟩,
      g_MOST_KEEP := ⟨_, PySem.W.mg_of X G v_MOST_KEEP⟩,
      g_MOST_TURN := ⟨_, PySem.W.mg_of X G v_MOST_TURN⟩,
      g_MOST_ROWS := ⟨_, PySem.W.mg_of X G v_MOST_ROWS⟩,
      g_MOST_PARCELS := ⟨_, PySem.W.mg_of X G v_MOST_PARCELS⟩,
      g_MOST_QUIET := ⟨_, PySem.W.mg_of X G v_MOST_QUIET⟩,
      g_MOST_LOST := ⟨_, PySem.W.mg_of X G v_MOST_LOST⟩,
      g_MOST_PERIOD := ⟨_, PySem.W.mg_of X G v_MOST_PERIOD⟩,
      Way := ⟨PySem.W.mg_of X G g_Way, ⟨pg_Way, hd_Way, po_Way, sa_Way⟩, ha_Way, s_hn, s_tk, hm_Way, ne_Way, is_Way, ty_Way, tup_Way, lst_Way, int_Way, str_Way⟩,
      w_begin := na_Way_begin,
      w_least := na_Way_least,
      w_most := na_Way_most,
      w_boxes := na_Way_boxes,
      Road := ⟨PySem.W.mg_of X G g_Road, ⟨pg_Road, hd_Road, po_Road, sa_Road⟩, ha_Road, s_hn, s_tk, hm_Road, ne_Road, is_Road, ty_Road, tup_Road, lst_Road, int_Road, str_Road⟩,
      r_way := na_Road_way,
      r_last := na_Road_last,
      r_turn := na_Road_turn,
      r_losses := na_Road_losses,
      r_rows := na_Road_rows,
      r_quiet := na_Road_quiet,
      r_period := na_Road_period,
      Lull := ⟨PySem.W.mg_of X G g_Lull, ⟨pg_Lull, hd_Lull, po_Lull, sa_Lull⟩, ha_Lull, s_hn, s_tk, hm_Lull, ne_Lull, is_Lull, ty_Lull, tup_Lull, lst_Lull, int_Lull, str_Lull⟩,
      c_delay := na_Lull_delay,
      c_turn := na_Lull_turn,
      c_losses := na_Lull_losses,
      c_quiet := na_Lull_quiet,
      BadPart := ⟨⟨⟨_, _, _, _, _, _, _, _, _, _, _, _, _, _, _, xBadPart_L, ve_one⟩, xBadPart_sa, xBadPart_ex, xBadPart_ty, xBadPart_kC⟩, PySem.W.mg_of X G g_BadPart, xBadPart_noA, ⟨xBadPart_hg, xBadPart_hk, xBadPart_ex, xBadPart_hd, xBadPart_ha, s_hn, s_tk, xBadPart_hm⟩, _, a_BadPart_init, i_BadPart_init, _, F_BadPart_init, F_BadPart_init.binds (ps := ["self", "part"]) fun _ _ _ _ _ _ us hl => match us, hl with | [_, _], _ => rfl⟩,
      BadBox := ⟨⟨⟨_, _, _, _, _, _, _, _, _, _, _, _, _, _, _, xBadBox_L, ve_one⟩, xBadBox_sa, xBadBox_ex, xBadBox_ty, xBadBox_kC⟩, PySem.W.mg_of X G g_BadBox, xBadBox_noA, ⟨xBadBox_hg, xBadBox_hk, xBadBox_ex, xBadBox_hd, xBadBox_ha, s_hn, s_tk, xBadBox_hm⟩, _, a_BadBox_init, i_BadBox_init, _, F_BadBox_init, F_BadBox_init.binds (ps := ["self", "index"]) fun _ _ _ _ _ _ us hl => match us, hl with | [_, _], _ => rfl⟩,
      g_WholeError := PySem.W.mg_of X G g_WholeError,
      x_pp := exm_ref xBadPart_ex xBadPart_is xBadPart_ty xBadPart_ss,
      k_pw := kit_ref xw_i xw_t xBadPart_w xBadPart_ss,
      t0 := fun H => .inr ⟨_, #[], en, d_0, rfl, rfl, Nat.zero_le _, .nil⟩ }
  refine ⟨[(cl__law_roads_right, Pt__law_roads_right), (cl__law_lulls_right, Pt__law_lulls_right), (cl_law, Pt_law)], PySem.W.fnOf "law" "law" (defArgs s_law) (defBody s_law) (defScope s_law) .none kV_law dc_law pm_law_ an_law (.ref cl_law) ct_law, ?_, ?_, rfl, fun s v => .of_eq rfl, fun base _ _ TB => ?_⟩
  · exact fun p hp => by
      simp only [List.mem_cons, List.not_mem_nil, or_false] at hp
      rcases hp with rfl | rfl | rfl
      · exact np__law_roads_right
      · exact np__law_lulls_right
      · exact np_law
  · exact fun p hp => by
      simp only [List.mem_cons, List.not_mem_nil, or_false] at hp
      rcases hp with rfl | rfl | rfl
      · exact PySem.W.codeHd_of_K X hd__law_roads_right
      · exact PySem.W.codeHd_of_K X hd__law_lulls_right
      · exact PySem.W.codeHd_of_K X hd_law
  · exact law_ok (ts := ⟨Pt_law, Pt__law_lulls_right, Pt__law_roads_right, fun z => nq_2 z.symm, fun z => nq_1 z.symm, fun z => nq_0 z.symm⟩) T D_is_integer D_is_between D_is_list D_is_list_of D_is_tuple_of D_is_begin D_are_delays D_is_box D_are_rows D_spread_of D_slack_of D_check_lull D_check_quiet D_lull_of D__law_pool D__law_take D__law_one D__law_road D__law_made D__law_told D__law_lull_wrong D__law_spoilt D__law_road_wrong M_Way_window M_Way_eq M_Road_init M_Road_eq M_Lull_init M_Lull_eq mk_Road kc_Road mk_Lull kc_Lull FI ⟨mk_Way, a_Way_init, i_Way_init, kc_Way⟩ B4 v3 B3 l__law_roads_right c__law_roads_right (TB _ List.mem_cons_self) (PySem.W.mg_of X G a__law_roads_right) k__law_roads_right l__law_lulls_right c__law_lulls_right (TB _ (List.mem_cons_of_mem _ List.mem_cons_self)) (PySem.W.mg_of X G a__law_lulls_right) k__law_lulls_right l_law c_law (TB _ (List.mem_cons_of_mem _ (List.mem_cons_of_mem _ List.mem_cons_self)))
theorem walk {l : PySem.W.OpenLaw} {q : Program} {loose : List Str} {XP : (Str → Option Value) → Heap → Prop} {YP : World → Heap → Prop} {d : DefRec} {K : Params → PySem.W.Frag} {PS : List Addr} (hn : l.most = some 63) (hdf : d.params.defaults = [])
    (hY : ∀ (w : World) (h : Heap), YP w h → (K w.params).In h) (hT : ∀ (w : World) (h : Heap), YP w h → ∀ P ∈ PS, h.get? P = some (PySem.W.tabObj #[]))
    (F : ∀ (w : World) (mg : Str → Option Value) (fa : Addr) (h : Heap), (K w.params).In h → h.Ns mainGlobals mg → mg d.name = some (.ref fa) →
      ∃ (cs : List (Addr × Addr)) (fd : FuncData), (∀ p ∈ cs, (K w.params).lookup p.2 = none) ∧ (∀ p ∈ cs, PySem.W.CodeHd h p.1 p.2) ∧ cs.map (·.2) = PS ∧ (∀ (s : Shared) (u : Value), BindsTo s fd ⟨[u], []⟩ [("_law_script", u)]) ∧ ∀ base : Heap, (K w.params).In base → base.Ns mainGlobals mg → (∀ p ∈ cs, LamX.TabB base mg p.1 p.2) → FnOk l.prog w (K w.params) mg base CX0 10 fa fd ["_law_script"] (spLawL (K w.params) PS)) :
    PySem.W.WalkO q loose XP YP l.row.toRowW d [] (fun f vs => PySem.call f vs) :=
  LamX.walk_ofTs (n := 63) (k := 10) (x := "_law_script") (CX := fun _ => CX0) hn (by decide) hdf ⟨rfl, by decide, by decide⟩ hY (fun w mg fa h Y KX G hmg => by
    obtain ⟨cs, fd, h1, h2, hPS, h3, h4⟩ := F w mg fa h KX G hmg
    have mem : ∀ p ∈ cs, p.2 ∈ PS := fun p hp => by rw [← hPS]; exact List.mem_map.mpr ⟨p, hp, rfl⟩
    exact ⟨fd, cs, spLawL (K w.params) PS, fun p hp => hT w h Y _ (mem p hp), h1, h2, h3,
      fun H a ns hl _ hH hS => ⟨a, ns, rfl, hS, hl, (fun P hP => by
        rw [← hPS] at hP
        obtain ⟨p, hp, e⟩ := List.mem_map.mp hP
        rw [← e]
        exact hH p hp), fun _ => rfl⟩, fun base a b c => h4 base a b c⟩) fun _ _ _ _ _ z => z
end K29

open PySem PySem.W PyProof.Rows in
set_option maxRecDepth 100000 in
set_option maxHeartbeats 0 in
theorem PySem.Challenge.cw_wholeline_k29_roads_and_lulls_built_holds : PySem.Challenge.rw_wholeline_k29_roads_and_lulls_built.Holds := by
  w_on; o_law; k_head; (case hw => w_witness2)
  k_fill
  refine K29.walk (l := PySem.Challenge.rw_wholeline_k29_roads_and_lulls_built) rfl rfl (fun w h Y => PySem.W.km_in_of Y) (fun w h Y P hP => PySem.W.km_tabs_of Y P hP) ?F
  case F =>
    intro w mg fa h KX G hmg
    refine' K29.all_mk KX G hmg ?q_g_BadPart ?q_g_BadBox ?q_g_WholeError ?q_g_Way ?q_g_Road ?q_g_Lull ?q_a_is_integer ?q_l_is_integer ?q_c_is_integer ?q_k_is_integer ?q_a_is_between ?q_l_is_between ?q_c_is_between ?q_k_is_between ?q_a_is_list ?q_l_is_list ?q_c_is_list ?q_k_is_list ?q_a_is_list_of ?q_l_is_list_of ?q_c_is_list_of ?q_k_is_list_of ?q_a_is_tuple_of ?q_l_is_tuple_of ?q_c_is_tuple_of ?q_k_is_tuple_of ?q_a_is_begin ?q_l_is_begin ?q_c_is_begin ?q_k_is_begin ?q_a_are_delays ?q_l_are_delays ?q_c_are_delays ?q_k_are_delays ?q_a_is_box ?q_l_is_box ?q_c_is_box ?q_k_is_box ?q_a_are_rows ?q_l_are_rows ?q_c_are_rows ?q_k_are_rows ?q_a_spread_of ?q_l_spread_of ?q_c_spread_of ?q_k_spread_of ?q_a_slack_of ?q_l_slack_of ?q_c_slack_of ?q_k_slack_of ?q_a_check_lull ?q_l_check_lull ?q_c_check_lull ?q_k_check_lull ?q_a_check_quiet ?q_l_check_quiet ?q_c_check_quiet ?q_k_check_quiet ?q_a_lull_of ?q_l_lull_of ?q_c_lull_of ?q_k_lull_of ?q_a__law_pool ?q_l__law_pool ?q_c__law_pool ?q_k__law_pool ?q_a__law_take ?q_l__law_take ?q_c__law_take ?q_k__law_take ?q_a__law_one ?q_l__law_one ?q_c__law_one ?q_k__law_one ?q_a__law_road ?q_l__law_road ?q_c__law_road ?q_k__law_road ?q_a__law_made ?q_l__law_made ?q_c__law_made ?q_k__law_made ?q_a__law_told ?q_l__law_told ?q_c__law_told ?q_k__law_told ?q_a__law_lull_wrong ?q_l__law_lull_wrong ?q_c__law_lull_wrong ?q_k__law_lull_wrong ?q_a__law_spoilt ?q_l__law_spoilt ?q_c__law_spoilt ?q_k__law_spoilt ?q_a__law_lulls_right ?q_l__law_lulls_right ?q_c__law_lulls_right ?q_k__law_lulls_right ?q_a__law_road_wrong ?q_l__law_road_wrong ?q_c__law_road_wrong ?q_k__law_road_wrong ?q_a__law_roads_right ?q_l__law_roads_right ?q_c__law_roads_right ?q_k__law_roads_right ?q_a_law ?q_l_law ?q_c_law ?q_k_law ?q_hd_law ?q_np_law ?q_a_BadPart_init ?q_i_BadPart_init ?q_l_BadPart_init ?q_c_BadPart_init ?q_k_BadPart_init ?q_a_BadBox_init ?q_i_BadBox_init ?q_l_BadBox_init ?q_c_BadBox_init ?q_k_BadBox_init ?q_a_Way_init ?q_i_Way_init ?q_l_Way_init ?q_c_Way_init ?q_k_Way_init ?q_a_Way_window ?q_i_Way_window ?q_l_Way_window ?q_c_Way_window ?q_k_Way_window ?q_a_Way_eq ?q_i_Way_eq ?q_l_Way_eq ?q_c_Way_eq ?q_k_Way_eq ?q_a_Road_init ?q_i_Road_init ?q_l_Road_init ?q_c_Road_init ?q_k_Road_init ?q_a_Road_eq ?q_i_Road_eq ?q_l_Road_eq ?q_c_Road_eq ?q_k_Road_eq ?q_a_Lull_init ?q_i_Lull_init ?q_l_Lull_init ?q_c_Lull_init ?q_k_Lull_init ?q_a_Lull_eq ?q_i_Lull_eq ?q_l_Lull_eq ?q_c_Lull_eq ?q_k_Lull_eq ?q_d_T ?q_d_0 ?q_n_isinstance ?q_n_int ?q_n_bool ?q_n_list ?q_n_tuple ?q_n_len ?q_n_range ?q_n_max ?q_n_min ?q_n_enumerate ?q_n_all ?q_v_MOST_BEGIN ?q_v_MOST_DELAY ?q_v_MOST_BOXES ?q_v_MOST_KEEP ?q_v_MOST_TURN ?q_v_MOST_ROWS ?q_v_MOST_PARCELS ?q_v_MOST_QUIET ?q_v_MOST_LOST ?q_v_MOST_PERIOD ?q_s_hn ?q_s_tk ?q_pg_Way ?q_hd_Way ?q_po_Way ?q_sa_Way ?q_ha_Way ?q_hm_Way ?q_ne_Way ?q_is_Way ?q_ty_Way ?q_tup_Way ?q_lst_Way ?q_int_Way ?q_str_Way ?q_mk_Way ?q_kc_Way ?q_na_Way_begin ?q_na_Way_least ?q_na_Way_most ?q_na_Way_boxes ?q_pg_Road ?q_hd_Road ?q_po_Road ?q_sa_Road ?q_ha_Road ?q_hm_Road ?q_ne_Road ?q_is_Road ?q_ty_Road ?q_tup_Road ?q_lst_Road ?q_int_Road ?q_str_Road ?q_mk_Road ?q_kc_Road ?q_na_Road_way ?q_na_Road_last ?q_na_Road_turn ?q_na_Road_losses ?q_na_Road_rows ?q_na_Road_quiet ?q_na_Road_period ?q_pg_Lull ?q_hd_Lull ?q_po_Lull ?q_sa_Lull ?q_ha_Lull ?q_hm_Lull ?q_ne_Lull ?q_is_Lull ?q_ty_Lull ?q_tup_Lull ?q_lst_Lull ?q_int_Lull ?q_str_Lull ?q_mk_Lull ?q_kc_Lull ?q_na_Lull_delay ?q_na_Lull_turn ?q_na_Lull_losses ?q_na_Lull_quiet ?q_xBadPart_L ?q_xBadPart_sa ?q_xBadPart_ex ?q_xBadPart_ty ?q_xBadPart_kC ?q_xBadPart_noA ?q_xBadPart_hg ?q_xBadPart_hk ?q_xBadPart_hd ?q_xBadPart_ha ?q_xBadPart_hm ?q_xBadPart_is ?q_xBadPart_ss ?q_xBadPart_w ?q_xBadBox_L ?q_xBadBox_sa ?q_xBadBox_ex ?q_xBadBox_ty ?q_xBadBox_kC ?q_xBadBox_noA ?q_xBadBox_hg ?q_xBadBox_hk ?q_xBadBox_hd ?q_xBadBox_ha ?q_xBadBox_hm ?q_xBadBox_is ?q_xBadBox_ss ?q_xBadBox_w ?q_xw_i ?q_xw_t ?q_xw_b ?q_hd__law_roads_right ?q_np__law_roads_right ?q_hd__law_lulls_right ?q_np__law_lulls_right ?q_nq_0 ?q_nq_1 ?q_nq_2
    (case q_g_BadPart => k_is)
    (case q_g_BadBox => k_is)
    (case q_g_WholeError => k_is)
    (case q_g_Way => k_is)
    (case q_g_Road => k_is)
    (case q_g_Lull => k_is)
    (case q_a_is_integer => k_is)
    (case q_l_is_integer => k_is)
    (case q_c_is_integer => k_is)
    (case q_k_is_integer => k_is)
    (case q_a_is_between => k_is)
    (case q_l_is_between => k_is)
    (case q_c_is_between => k_is)
    (case q_k_is_between => k_is)
    (case q_a_is_list => k_is)
    (case q_l_is_list => k_is)
    (case q_c_is_list => k_is)
    (case q_k_is_list => k_is)
    (case q_a_is_list_of => k_is)
    (case q_l_is_list_of => k_is)
    (case q_c_is_list_of => k_is)
    (case q_k_is_list_of => k_is)
    (case q_a_is_tuple_of => k_is)
    (case q_l_is_tuple_of => k_is)
    (case q_c_is_tuple_of => k_is)
    (case q_k_is_tuple_of => k_is)
    (case q_a_is_begin => k_is)
    (case q_l_is_begin => k_is)
    (case q_c_is_begin => k_is)
    (case q_k_is_begin => k_is)
    (case q_a_are_delays => k_is)
    (case q_l_are_delays => k_is)
    (case q_c_are_delays => k_is)
    (case q_k_are_delays => k_is)
    (case q_a_is_box => k_is)
    (case q_l_is_box => k_is)
    (case q_c_is_box => k_is)
    (case q_k_is_box => k_is)
    (case q_a_are_rows => k_is)
    (case q_l_are_rows => k_is)
    (case q_c_are_rows => k_is)
    (case q_k_are_rows => k_is)
    (case q_a_spread_of => k_is)
    (case q_l_spread_of => k_is)
    (case q_c_spread_of => k_is)
    (case q_k_spread_of => k_is)
    (case q_a_slack_of => k_is)
    (case q_l_slack_of => k_is)
    (case q_c_slack_of => k_is)
    (case q_k_slack_of => k_is)
    (case q_a_check_lull => k_is)
    (case q_l_check_lull => k_is)
    (case q_c_check_lull => k_is)
    (case q_k_check_lull => k_is)
    (case q_a_check_quiet => k_is)
    (case q_l_check_quiet => k_is)
    (case q_c_check_quiet => k_is)
    (case q_k_check_quiet => k_is)
    (case q_a_lull_of => k_is)
    (case q_l_lull_of => k_is)
    (case q_c_lull_of => k_is)
    (case q_k_lull_of => k_is)
    (case q_a__law_pool => k_is)
    (case q_l__law_pool => k_is)
    (case q_c__law_pool => k_is)
    (case q_k__law_pool => k_is)
    (case q_a__law_take => k_is)
    (case q_l__law_take => k_is)
    (case q_c__law_take => k_is)
    (case q_k__law_take => k_is)
    (case q_a__law_one => k_is)
    (case q_l__law_one => k_is)
    (case q_c__law_one => k_is)
    (case q_k__law_one => k_is)
    (case q_a__law_road => k_is)
    (case q_l__law_road => k_is)
    (case q_c__law_road => k_is)
    (case q_k__law_road => k_is)
    (case q_a__law_made => k_is)
    (case q_l__law_made => k_is)
    (case q_c__law_made => k_is)
    (case q_k__law_made => k_is)
    (case q_a__law_told => k_is)
    (case q_l__law_told => k_is)
    (case q_c__law_told => k_is)
    (case q_k__law_told => k_is)
    (case q_a__law_lull_wrong => k_is)
    (case q_l__law_lull_wrong => k_is)
    (case q_c__law_lull_wrong => k_is)
    (case q_k__law_lull_wrong => k_is)
    (case q_a__law_spoilt => k_is)
    (case q_l__law_spoilt => k_is)
    (case q_c__law_spoilt => k_is)
    (case q_k__law_spoilt => k_is)
    (case q_a__law_lulls_right => k_is)
    (case q_l__law_lulls_right => k_is)
    (case q_c__law_lulls_right => k_is)
    (case q_k__law_lulls_right => k_is)
    (case q_a__law_road_wrong => k_is)
    (case q_l__law_road_wrong => k_is)
    (case q_c__law_road_wrong => k_is)
    (case q_k__law_road_wrong => k_is)
    (case q_a__law_roads_right => k_is)
    (case q_l__law_roads_right => k_is)
    (case q_c__law_roads_right => k_is)
    (case q_k__law_roads_right => k_is)
    (case q_a_law => k_is)
    (case q_l_law => k_is)
    (case q_c_law => k_is)
    (case q_k_law => k_is)
    (case q_hd_law => first | k_is | kernel_rfl)
    (case q_np_law => first | k_is | kernel_rfl)
    (case q_a_BadPart_init => k_is)
    (case q_i_BadPart_init => k_is)
    (case q_l_BadPart_init => k_is)
    (case q_c_BadPart_init => k_is)
    (case q_k_BadPart_init => k_is)
    (case q_a_BadBox_init => k_is)
    (case q_i_BadBox_init => k_is)
    (case q_l_BadBox_init => k_is)
    (case q_c_BadBox_init => k_is)
    (case q_k_BadBox_init => k_is)
    (case q_a_Way_init => k_is)
    (case q_i_Way_init => k_is)
    (case q_l_Way_init => k_is)
    (case q_c_Way_init => k_is)
    (case q_k_Way_init => k_is)
    (case q_a_Way_window => k_is)
    (case q_i_Way_window => k_is)
    (case q_l_Way_window => k_is)
    (case q_c_Way_window => k_is)
    (case q_k_Way_window => k_is)
    (case q_a_Way_eq => k_is)
    (case q_i_Way_eq => k_is)
    (case q_l_Way_eq => k_is)
    (case q_c_Way_eq => k_is)
    (case q_k_Way_eq => k_is)
    (case q_a_Road_init => k_is)
    (case q_i_Road_init => k_is)
    (case q_l_Road_init => k_is)
    (case q_c_Road_init => k_is)
    (case q_k_Road_init => k_is)
    (case q_a_Road_eq => k_is)
    (case q_i_Road_eq => k_is)
    (case q_l_Road_eq => k_is)
    (case q_c_Road_eq => k_is)
    (case q_k_Road_eq => k_is)
    (case q_a_Lull_init => k_is)
    (case q_i_Lull_init => k_is)
    (case q_l_Lull_init => k_is)
    (case q_c_Lull_init => k_is)
    (case q_k_Lull_init => k_is)
    (case q_a_Lull_eq => k_is)
    (case q_i_Lull_eq => k_is)
    (case q_l_Lull_eq => k_is)
    (case q_c_Lull_eq => k_is)
    (case q_k_Lull_eq => k_is)
    (case q_d_T => k_is)
    (case q_d_0 => k_is)
    (case q_n_isinstance => k_is)
    (case q_n_int => k_is)
    (case q_n_bool => k_is)
    (case q_n_list => k_is)
    (case q_n_tuple => k_is)
    (case q_n_len => k_is)
    (case q_n_range => k_is)
    (case q_n_max => k_is)
    (case q_n_min => k_is)
    (case q_n_enumerate => k_is)
    (case q_n_all => k_is)
    (case q_v_MOST_BEGIN => k_is)
    (case q_v_MOST_DELAY => k_is)
    (case q_v_MOST_BOXES => k_is)
    (case q_v_MOST_KEEP => k_is)
    (case q_v_MOST_TURN => k_is)
    (case q_v_MOST_ROWS => k_is)
    (case q_v_MOST_PARCELS => k_is)
    (case q_v_MOST_QUIET => k_is)
    (case q_v_MOST_LOST => k_is)
    (case q_v_MOST_PERIOD => k_is)
    (case q_s_hn => k_is)
    (case q_s_tk => k_is)
    (case q_pg_Way => k_is)
    (case q_hd_Way => k_is)
    (case q_po_Way => k_is)
    (case q_sa_Way => k_is)
    (case q_ha_Way => k_is)
    (case q_hm_Way => k_is)
    (case q_ne_Way => k_is)
    (case q_is_Way => k_is)
    (case q_ty_Way => k_is)
    (case q_tup_Way => k_is)
    (case q_lst_Way => k_is)
    (case q_int_Way => k_is)
    (case q_str_Way => k_is)
    (case q_mk_Way => k_is)
    (case q_kc_Way => k_is)
    (case q_na_Way_begin => k_is)
    (case q_na_Way_least => k_is)
    (case q_na_Way_most => k_is)
    (case q_na_Way_boxes => k_is)
    (case q_pg_Road => k_is)
    (case q_hd_Road => k_is)
    (case q_po_Road => k_is)
    (case q_sa_Road => k_is)
    (case q_ha_Road => k_is)
    (case q_hm_Road => k_is)
    (case q_ne_Road => k_is)
    (case q_is_Road => k_is)
    (case q_ty_Road => k_is)
    (case q_tup_Road => k_is)
    (case q_lst_Road => k_is)
    (case q_int_Road => k_is)
    (case q_str_Road => k_is)
    (case q_mk_Road => k_is)
    (case q_kc_Road => k_is)
    (case q_na_Road_way => k_is)
    (case q_na_Road_last => k_is)
    (case q_na_Road_turn => k_is)
    (case q_na_Road_losses => k_is)
    (case q_na_Road_rows => k_is)
    (case q_na_Road_quiet => k_is)
    (case q_na_Road_period => k_is)
    (case q_pg_Lull => k_is)
    (case q_hd_Lull => k_is)
    (case q_po_Lull => k_is)
    (case q_sa_Lull => k_is)
    (case q_ha_Lull => k_is)
    (case q_hm_Lull => k_is)
    (case q_ne_Lull => k_is)
    (case q_is_Lull => k_is)
    (case q_ty_Lull => k_is)
    (case q_tup_Lull => k_is)
    (case q_lst_Lull => k_is)
    (case q_int_Lull => k_is)
    (case q_str_Lull => k_is)
    (case q_mk_Lull => k_is)
    (case q_kc_Lull => k_is)
    (case q_na_Lull_delay => k_is)
    (case q_na_Lull_turn => k_is)
    (case q_na_Lull_losses => k_is)
    (case q_na_Lull_quiet => k_is)
    (case q_xBadPart_L => k_is)
    (case q_xBadPart_sa => k_is)
    (case q_xBadPart_ex => k_is)
    (case q_xBadPart_ty => k_is)
    (case q_xBadPart_kC => k_is)
    (case q_xBadPart_noA => k_is)
    (case q_xBadPart_hg => k_is)
    (case q_xBadPart_hk => k_is)
    (case q_xBadPart_hd => k_is)
    (case q_xBadPart_ha => k_is)
    (case q_xBadPart_hm => k_is)
    (case q_xBadPart_is => k_is)
    (case q_xBadPart_ss => k_is)
    (case q_xBadPart_w => k_is)
    (case q_xBadBox_L => k_is)
    (case q_xBadBox_sa => k_is)
    (case q_xBadBox_ex => k_is)
    (case q_xBadBox_ty => k_is)
    (case q_xBadBox_kC => k_is)
    (case q_xBadBox_noA => k_is)
    (case q_xBadBox_hg => k_is)
    (case q_xBadBox_hk => k_is)
    (case q_xBadBox_hd => k_is)
    (case q_xBadBox_ha => k_is)
    (case q_xBadBox_hm => k_is)
    (case q_xBadBox_is => k_is)
    (case q_xBadBox_ss => k_is)
    (case q_xBadBox_w => k_is)
    (case q_xw_i => k_is)
    (case q_xw_t => k_is)
    (case q_xw_b => k_is)
    (case q_hd__law_roads_right => first | k_is | kernel_rfl)
    (case q_np__law_roads_right => first | k_is | kernel_rfl)
    (case q_hd__law_lulls_right => first | k_is | kernel_rfl)
    (case q_np__law_lulls_right => first | k_is | kernel_rfl)
    (case q_nq_0 => decide)
    (case q_nq_1 => decide)
    (case q_nq_2 => decide)
