import PyProof.Rows.All
import Wide.All
import OpenK.AllK
import Wide.FinOn
import PyProof.EqAt
import PyProof.EqKinds
import PyProof.TupleCall
import HandS.Base
import HandS.Call
import HandS.List
import HandS.Comp
import HandS.Ends
import HandS.Words
import HandS.WordsList
import HandS.Exc
import HandS.ExcInit
import HandS.ExcIs
import HandS.OwnEq
import HandS.IsInst
import HandS.ExcOwn
import HandS.ExcField
import HandS.WordsExc
import HandS.TryOnly
import HandS.TryMany
import HandS.CallSlots
import HandS.Wide
import HandS.Codes
import KE.KTupSum
import PyProof.ListRange
import KE.GoesEnum
import HandS.Iter
import HandS.Walk
import HandS.HotCalls
import KE.KEqNest
import HandS.MakeKwOnly
import HandS.TupAny
import HandS.Strs
import HandS.Deep
import HandS.Zip
import HandS.Star
import HandS.Conv
import HandS.IterVal
import HandS.ListItems
import KE.KDictZip
import KE.DataFind
import HandS.GenCall
import HandS.GenList
import KE.DataMinMax
import HandS.SortKw
import PySem.Challenge.RW_wholeline_k34_whole_chains_that_bar_sign
import HandS.Evl
import HandS.NoneIn
import HandS.Style
set_option Elab.async false
set_option maxRecDepth 100000
set_option maxHeartbeats 4000000
namespace PySem.W
open PySem PySem.Calls PyProof.Rows
section
variable {prog : Program} {w : World} {A : Around} {E : Value → Shared → Prop} {s : Shared} {K : Frag} {x C L f : Addr} {h₀ : Heap} {m : Str → Option Value} {ox : Obj} {od : Option Obj} {b tb : Value}
theorem objNe_K {Q : Fin → Shared → Prop} (hu : A.units < cLine) (X : K.In s.heap) (I : InstAt s.heap x ox C od)
    (hs : findIn K (.ref C) "__eq__" = some (some (.ref f))) (hf : isFn K (.ref f) = true)
    (h : wpAny (model prog w) A (call (.ref f) [.ref x, b]) (fun v s' => ∃ r, v = .bool r ∧ Q (.done (.ret (.bool (!r)))) s') E s) :
    wpAny (model prog w) A (Builtin.«object.__ne__» ⟨[.ref x, b], []⟩) Q E s := by
  obtain ⟨hp, g, d, tk, os⟩ := s
  unfold Builtin.«object.__ne__»
  repeat (first
    | with_reducible refine wpAny_cRoomFor hu ?_
    | (refine wpAny_bind (m := callSpecialIfBound? (.ref x) (Str.ofString "__eq__") [b])
        (ifBound_K X I hs hf (wpAny_mono h (fun r s' hr => by
          obtain ⟨b, rfl, hq⟩ := hr
          repeat (first | exact hq | exact wpAny_pure hq | exact wpAny_truthy_bool hq | (refine wpAny_bind (m := truthy (.bool _)) (wpAny_truthy_bool ?_)) | wp_step)) fun _ _ e => e)))
    | wp_step)
theorem cmpNe_K {Q : Value → Shared → Prop} (hu : A.units + 1 < cLine) (F : Fr h₀ L s.heap m) (X₀ : K.In h₀) (I : InstAt s.heap x ox C od) (hb : Looks (model prog w) s.heap (typeOf b) tb) (hn : notFirst K C tb = true)
    (hne : findIn K (.ref C) "__ne__" = some (some (.builtin "object.__ne__"))) (hm : mroIn K C (.type "object") = some true)
    (hs : findIn K (.ref C) "__eq__" = some (some (.ref f))) (hf : isFn K (.ref f) = true)
    (h : wpAny (model prog w) A.in1 (call (.ref f) [.ref x, b]) (fun v s' => ∃ r, v = .bool r ∧ Q (.bool (!r)) s') E s) : wpAny (model prog w) A (richCompare .NotEq (.ref x) b) Q E s := by
  have X := X₀.keeps F.keep
  have sub : Looks (model prog w) s.heap (isInstance (.ref x) (.type "object")) true := I.type.andThen (looks_mroIn X hm)
  have one : wpAny (model prog w) A (tryCompare (.ref x) "__ne__" b) (fun r s' => ∃ v, r = some v ∧ Q v s') E s := by
    unfold tryCompare
    refine wpAny_bind ?_
    simp only [callSpecialIfBound?, bindSpecialIfBound?]
    refine wpAny_holding (wpAny_bind (wpAny_bind (wpAny_bind (I.type.here ((looks_findIn X hne).here ?_)))))
    simp only [PySem.F.cmp_object.ne.bind]
    refine wpAny_bind (wpAny_askSetting (wpAny_ite ?_))
    have fin : wpAny (model prog w) A (call (.builtin "object.__ne__") ([.ref x] ++ [b]) >>= fun v => pure (some v)) (fun r s' => wpAny (model prog w) A (match r with
        | some .notImplemented | none => pure none
        | some v => pure (some v)) (fun r s' => ∃ v, r = some v ∧ Q v s') E s') E s := by
      refine wpAny_bind (wpAny_call (codeAny_call_builtin PySem.F.cmp_object.ne.plain PySem.F.cmpEntry_ne (check_slot PySem.F.cmpKind_ne PySem.F.cmpSplit_ne sub (PySem.F.cmpArgs_ne _ _)
        (objNe_K (A := A.in1) hu X I hs hf (wpAny_mono h (fun v s' hv => ?_) fun _ _ e => e)))))
      obtain ⟨r, rfl, hq⟩ := hv
      first | exact ⟨r, rfl, wpAny_pure (wpAny_pure ⟨_, rfl, hq⟩)⟩ | exact ⟨r, rfl, wpAny_pure ⟨_, rfl, hq⟩⟩
    split
    · repeat (first | exact fin | with_reducible refine wpAny_pure ?_ | with_reducible refine wpAny_bind ?_ | with_reducible refine wpAny_tryCatch ?_)
    · refine wpAny_tryCatch ?_
      repeat (first | exact fin | with_reducible refine wpAny_pure ?_ | with_reducible refine wpAny_bind ?_)
  unfold richCompare
  simp only [oneThing_ref]
  refine wpAny_holding (wpAny_bind (wpAny_cRoomFor (Nat.lt_of_succ_lt hu) ?_))
  refine wpAny_bind (I.type.here (wpAny_bind (hb.here ?_)))
  split
  · rename_i q
    have e : subIn K tb (.ref C) = some false := by
      rcases Bool.or_eq_true_iff.mp hn with e | e
      · rw [beq_iff_eq.mp e] at q; simp at q
      · exact beq_iff_eq.mp e
    refine wpAny_bind ((looks_subIn X e).here ?_)
    simp only [Bool.false_eq_true, if_false]
    refine wpAny_bind (wpAny_mono one (fun r s' z => ?_) fun _ _ e => e)
    obtain ⟨v, rfl, hq⟩ := z
    exact wpAny_pure hq
  · refine wpAny_bind (wpAny_pure ?_)
    simp only [Bool.false_eq_true, if_false]
    refine wpAny_bind (wpAny_mono one (fun r s' z => ?_) fun _ _ e => e)
    obtain ⟨v, rfl, hq⟩ := z
    exact wpAny_pure hq
end
end PySem.W

set_option Elab.async false
set_option maxRecDepth 100000
set_option maxHeartbeats 4000000
namespace L2
open PySem PySem.Spec PyProof.Rows
section
variable {X : Cx} {CX : CXT} {k : Nat} {f C : Addr} {fd : FuncData} {ps : List Str} {sp : Sp}
/-- the own method f, called at some frame below with room -/
theorem run_at {A : Around} {pins : List (Addr × Obj)} {σ : St} {H : Hp} {s : Shared} {Q : VK} {us : List Value} {vs : List V} (F : FnOk X.prog X.w X.K X.mg X.base CX k f fd ps sp) (hr : Room k A) (hA : A.frames = X.A.frames) (hb : Binds X.K fd ps []) (hx : Passes CX X E0)
    (I : Inv X pins σ H s) (r : Vals vs us) (h : sp vs H Q E0) : wpAny (model X.prog X.w) A (call (.ref f) us) (EP X pins σ Q) X.xe s := by
  have hl : us.length = ps.length := by rw [← r.length]; exact F.len _ _ _ _ h
  have e0 : Env0 X.prog X.w X.K X.mg X.base A X.stack s H := by
    have e := I.env0
    exact ⟨by rw [hA]; exact e.frames, e.mod, e.bs, e.bsz, e.funs, e.frf, e.hok, e.bare⟩
  refine wpAny_call (codeAny_mono (F.run A X.stack s H ⟨us, []⟩ us vs Q E0 hr e0 (by
    have := hb s us I.kIn (by simpa using hl)
    simpa using this) r h) fun r s' hq => ?_)
  cases r with
  | error e => exact hx pins σ H s e s' I hq
  | ok fl =>
    cases fl with
    | ret u => exact I.after hq
    | next => exact False.elim hq
    | brk => exact False.elim hq
    | cont => exact False.elim hq
/-- x == y, x an instance of the class at C, by its own ==; y anything whose type is known -/
def rEqO (K : PySem.W.Frag) (C : Addr) (sp : Sp) : R2 := fun x y H Q => ∃ a dx fs t, x = .ref a ∧ H a = some (.ins C dx fs) ∧ TyX K H y t ∧ PySem.W.notFirst K C t = true ∧ sp [x, y] H (fun v H' => ∃ b, v = .bl b ∧ Q (.bl b) H') E0
def rNeO (K : PySem.W.Frag) (C : Addr) (sp : Sp) : R2 := fun x y H Q => ∃ a dx fs t, x = .ref a ∧ H a = some (.ins C dx fs) ∧ TyX K H y t ∧ PySem.W.notFirst K C t = true ∧ sp [x, y] H (fun v H' => ∃ b, v = .bl b ∧ Q (.bl (!b)) H') E0
structure EqM (K : PySem.W.Frag) (C f : Addr) : Prop where
  eq : PySem.W.findIn K (.ref C) "__eq__" = some (some (.ref f))
  fn : PySem.W.isFn K (.ref f) = true
  ne : PySem.W.findIn K (.ref C) "__ne__" = some (some (.builtin "object.__ne__"))
  ob : PySem.W.mroIn K C (.type "object") = some true
theorem op_eqO (F : FnOk X.prog X.w X.K X.mg X.base CX k f fd ps sp) (M : EqM X.K C f) (hr : Room k X.A) (hb : Binds X.K fd ps []) (hx : Passes CX X E0) : OpR X (compareOp .Eq) (rEqO X.K C sp) := by
  intro pins s σ H x y v u Q I rx ry hq
  obtain ⟨a, dx, fs, t, rfl, ha, ty, hn, q⟩ := hq
  cases (show v = Value.ref a from rx)
  obtain ⟨P, Z, p, _⟩ := kit_of I ry ty
  obtain ⟨mA, J, _⟩ := ins_get I.hok ha
  obtain ⟨od, J, _⟩ := J.look
  obtain ⟨m, hF⟩ := I.fr
  show wpAny (model X.prog X.w) X.A (richCompare .Eq (.ref a) u) (EP X pins σ Q) X.xe s
  refine PySem.W.cmp_K (op := .Eq) (tb := t) hr.units0 hF I.ok.mod.kin J (Z.ty _ _ I.kIn p) hn M.eq M.fn ?_
  refine wpAny_mono (run_at (vs := [.ref a, y]) F hr rfl hb hx I (.cons rfl (.cons ry .nil)) q) (fun v' s' z => ?_) fun _ _ e => e
  obtain ⟨w', H', I', rv, b, rfl, q'⟩ := z
  cases rv
  exact ⟨.bl b, H', I', rfl, q'⟩
theorem op_neO (F : FnOk X.prog X.w X.K X.mg X.base CX k f fd ps sp) (M : EqM X.K C f) (hr : Room (k + 1) X.A) (hb : Binds X.K fd ps []) (hx : Passes CX X E0) : OpR X (compareOp .NotEq) (rNeO X.K C sp) := by
  intro pins s σ H x y v u Q I rx ry hq
  obtain ⟨a, dx, fs, t, rfl, ha, ty, hn, q⟩ := hq
  cases (show v = Value.ref a from rx)
  obtain ⟨P, Z, p, _⟩ := kit_of I ry ty
  obtain ⟨mA, J, _⟩ := ins_get I.hok ha
  obtain ⟨od, J, _⟩ := J.look
  obtain ⟨m, hF⟩ := I.fr
  show wpAny (model X.prog X.w) X.A (richCompare .NotEq (.ref a) u) (EP X pins σ Q) X.xe s
  refine PySem.W.cmpNe_K (tb := t) (by have := hr.units; omega) hF I.ok.mod.kin J (Z.ty _ _ I.kIn p) hn M.ne M.ob M.eq M.fn ?_
  refine wpAny_mono (run_at (vs := [.ref a, y]) F hr.in1 rfl hb hx I (.cons rfl (.cons ry .nil)) q) (fun v' s' z => ?_) fun _ _ e => e
  obtain ⟨w', H', I', rv, b, rfl, q'⟩ := z
  cases rv
  exact ⟨b, rfl, .bl (!b), H', I', rfl, q'⟩
/-- len(o), o an instance of the class at C with an own __len__ -/
def rLenO (C : Addr) (sp : Sp) : List V → Hp → VK → Prop := fun xs H Q => ∃ a dx fs, xs = [.ref a] ∧ H a = some (.ins C dx fs) ∧ sp [.ref a] H (fun v H' => ∃ n : Int, v = .int n ∧ (0 ≤ n ∧ n < 2 ^ 63) ∧ Q (.int n) H') E0
theorem call_lenO (F : FnOk X.prog X.w X.K X.mg X.base CX k f fd ps sp) (hs : PySem.W.findIn X.K (.ref C) "__len__" = some (some (.ref f))) (hf : PySem.W.isFn X.K (.ref f) = true) (hr : Room (k + 1) X.A) (hb : Binds X.K fd ps []) (hx : Passes CX X E0) :
    CallR X (.builtin "len") (rLenO C sp) := by
  intro pins s σ H xs us Q I r h
  obtain ⟨a, dx, fs, rfl, ha, q⟩ := h
  cases r with
  | cons rx rr =>
    rename_i u us'
    cases rr
    cases (show u = Value.ref a from rx)
    obtain ⟨mA, J, _⟩ := ins_get I.hok ha
    obtain ⟨od, J, _⟩ := J.look
    obtain ⟨m, hF⟩ := I.fr
    refine PySem.W.len_K hF I.ok.mod.kin J hs hf ?_
    refine wpAny_mono (run_at (vs := [.ref a]) F hr.in1 rfl hb hx I (.cons rfl .nil) q) (fun v' s' z => ?_) fun _ _ e => e
    obtain ⟨w', H', I', rv, n, rfl, hn, q'⟩ := z
    obtain ⟨t, rfl⟩ := (show ∃ t, v' = Value.int n t from rv)
    exact ⟨hn, .int n, H', I'.tok _, ⟨_, rfl⟩, q'⟩
end
end L2

set_option Elab.async false
set_option maxRecDepth 100000
set_option maxHeartbeats 4000000
namespace PySem.W
open PySem PySem.Spec PySem.Calls PyProof.Rows
section
variable {K : Frag} {C : Addr}
theorem findObj_dat {od : Option Obj} {name : Str} {a g : Value} (hc : (clsIn K C).isSome = true) (ha : findIn K (.ref C) name = some (some a)) (hg : specialIn K a "__get__" = some (some g)) (ht : takesIn K a = some true) :
    findObj K C od name = some (.bind g a) := by
  obtain ⟨cd, hc⟩ := Option.isSome_iff_exists.mp hc
  simp [findObj, hc, ha, hg, ht]
variable {prog : Program} {w : World} {A : Around} {E : Value → Shared → Prop} {s : Shared} {x D : Addr} {ox : Obj}
theorem kin_classD {od : Option Obj} {Q : Option Value → Shared → Prop} (T : L2.ExcC K D)
    (X : K.In s.heap) (I : InstAt s.heap x ox D od) (h : Q (some (.ref D)) { s with toks := s.toks + 1 }) : wpAny (model prog w) A (getAttr? (.ref x) "__class__") Q E s := by
  have hf : findObj K D od "__class__" = some (.bind (.builtin "getset_descriptor.__get__") (.builtin "object.__class__")) :=
    findObj_dat (by obtain ⟨cd, hc, _⟩ := any_some T.hd; rw [hc]; rfl) T.ha T.hn T.ht
  obtain ⟨hp, g, d, t, os⟩ := s
  have L0 := I.type (M := model prog w)
  have L1 := looks_findIn (M := model prog w) X T.hg
  have L2 := looks_findIn (M := model prog w) X T.hk
  have L3 := looks_find (M := model prog w) X I hf
  have sub : Looks (model prog w) hp (isInstance (.ref x) (.type "BaseException")) true := L0.andThen (looks_subIn X T.hs)
  have hx0 : (false && onTheHeap (Value.builtin "BaseException.__getattribute__")) = false := rfl
  have hx2 : (Value.builtin "BaseException.__getattribute__" == Value.builtin "object.__getattribute__") = false := by decide +kernel
  have hx1 : (onTheHeap (Value.ref D) && Value.builtin "BaseException.__getattribute__" == Value.builtin "object.__getattribute__") = false := by rw [hx2]; rfl
  unfold getAttr? getAttrBy? getAttrBy
  refine wpAny_bind (wpAny_mkText (wpAny_bind (wpAny_attempt (wpAny_holding (wpAny_bind (L0.at (wpAny_bind (L1.at ?_))))))))
  show wpAny _ _ (if (onTheHeap (Value.ref D) && Value.builtin "BaseException.__getattribute__" == Value.builtin "object.__getattribute__") = true then _ else _) _ _ _
  rw [hx1, if_neg Bool.false_ne_true]
  unfold getAttrByItsOwn hookBefore
  refine wpAny_bind ?_
  rw [if_pos (show onTheHeap (Value.ref D) = true from rfl)]
  refine L2.at ?_
  refine wpAny_bind (wpAny_attempt (wpAny_holding ?_))
  unfold callGetattribute
  rw [hx0, if_neg Bool.false_ne_true]
  unfold boundAndCalled
  rw [PySem.F.excAttr_ValueError.ga.bind (.ref x)]
  refine wpAny_bind (wpAny_pure ?_)
  show wpAny _ _ (call (.builtin "BaseException.__getattribute__") [.ref x, .str "__class__" t]) _ _ _
  refine wpAny_call (codeAny_call_builtin PySem.F.excAttr_ValueError.ga.plain PySem.F.entry_bexc_ga ?_)
  refine @check_slot (model prog w) _ _ ⟨hp, g, d, t + 1, os⟩ "BaseException.__getattribute__" "BaseException" "__getattribute__" (.ref x) [.str "__class__" t] [] _ (by decide +kernel) (by decide +kernel) sub (PySem.F.args_bexc_ga (.ref x) (.str "__class__" t)) ?_
  unfold Builtin.«object.__getattribute__»
  refine wpAny_bind (wpAny_of_eq (a := ((Value.ref x : Value), [Value.str "__class__" t])) (by first | rfl | (simp only [slotArgs]; rfl)) ?_)
  refine wpAny_bind (wpAny_pure (wpAny_bind (L0.at (wpAny_bind (L3.at ?_)))))
  show wpAny _ _ (holding [Value.builtin "object.__class__"] (call (.builtin "getset_descriptor.__get__") [.builtin "object.__class__", .ref x, .ref D]) >>= ret) _ _ _
  refine wpAny_bind (wpAny_holding (wpAny_call (class_get (s := ⟨hp, g, d, t + 1, os⟩) (ox := ox) (od := od) X I T.hm ?_)))
  refine wpAny_pure ?_
  show wpAny _ _ (handedOut (.ref D)) _ _ _
  rw [handedOut_of (v := .ref D) rfl]
  first
    | exact wpAny_pure (wpAny_pure h)
    | exact wpAny_pure h
    | exact wpAny_pure (wpAny_bind (wpAny_pure (wpAny_pure h)))
theorem kitx_excD (T : L2.ExcC K D) : KitX K (.ref x) (.ref D) (fun h => ∃ od, InstAt h x ox D od) where
  ty := fun _ _ _ I => by
    obtain ⟨_, I⟩ := I
    exact I.type
  it := fun M h X _ => by
    obtain ⟨cdD, hcD, _⟩ := any_some T.hd
    unfold clsIn at hcD
    split at hcD
    · rename_i c' d' cd' sl' ho
      intro A' Q' E' s' k q
      unfold isType loadHead
      exact wpAny_bind (wpAny_loadPart (k _ _ (X _ _ ho)) (wpAny_pure q))
    · cases hcD
  ne := fun h tp dd its n sl X htp => by
    obtain ⟨cdD, hcD, _⟩ := any_some T.hd
    refine Bool.eq_false_iff.mpr fun q => ?_
    have e : D = tp := Value.ref.inj (beq_iff_eq.mp q)
    subst e
    unfold clsIn at hcD
    split at hcD
    · rename_i c' d' cd' sl' ho
      have z := (X _ _ ho).symm.trans htp
      cases z
    · cases hcD
  ca := fun X I k => by
    obtain ⟨_, I⟩ := I
    exact kin_classD T X I k
end
end PySem.W
namespace L2
open PySem PySem.Spec PyProof.Rows
section
variable {X : Cx}
/-- isinstance(e, c), e the exception that the suite holds, with a dict or without -/
theorem call_isED {a D : Addr} {d : Option Addr} {oe : Obj} {pn : List (Addr × Obj)} (C : ExcC X.K D) (hz : Zc (.ref D) d oe) (hf : ∃ vs, oe.data = .fields vs) (hd : ∀ (pins : List (Addr × Obj)) (σ : St) (H : Hp) (s : Shared), Inv (X.suite a ((a, oe) :: pn)) pins σ H s → ∀ dd, d = some dd → ∃ od, s.heap.get? dd = some od) :
    CallR (X.suite a ((a, oe) :: pn)) (.builtin "isinstance") (rIsE X.K D a) := by
  intro pins s σ H xs us Q I r h
  obtain ⟨c, cv, b, rfl, hcv, e, q⟩ := h
  cases r with
  | cons rx rr =>
    cases rr with
    | cons rt rr =>
      cases rr
      cases rx
      have ec := hcv _ rt
      subst ec
      obtain ⟨hget, _⟩ := I.pin (a, oe) (List.mem_append.mpr (.inl List.mem_cons_self))
      obtain ⟨vs, hv⟩ := hf
      have J : ∃ od, PySem.W.InstAt s.heap a oe D od := by
        have hd' := hd pins σ H s I
        obtain ⟨oc, od, oda, osl⟩ := oe
        obtain ⟨h1, h2⟩ := hz
        dsimp only at h1 h2 hv
        subst h1 h2 hv
        cases od with
        | none => exact ⟨none, hget, rfl, rfl, trivial⟩
        | some dd =>
          obtain ⟨o, ho⟩ := hd' dd rfl
          exact ⟨some o, hget, rfl, rfl, ho⟩
      exact PySem.W.kia_one (PySem.W.kitx_excD C) I.kIn J e (fun z => nomatch z) fun tk => ⟨.bl b, H, I.kept (t' := tk) fun _ _ z => z, rfl, q⟩
/-- the same where the dict is tracked: the reading asks it -/
def rIsED (K : PySem.W.Frag) (D a : Addr) (cls : Value) (d : Option Addr) : List V → Hp → VK → Prop := fun xs H Q => cls = .ref D ∧ (∀ dd, d = some dd → ∃ fs, H dd = some (.xd fs)) ∧ ∃ (c : V) (cv : Value) (b : Bool), xs = [.ref a, c] ∧ (∀ u, RelV c u → u = cv) ∧ PySem.W.kitOne K (.ref D) cv = some b ∧ Q (.bl b) H
theorem call_isEX {a D : Addr} {cls : Value} {d : Option Addr} {oe : Obj} {pn : List (Addr × Obj)} (C : ExcC X.K D) (hz : Zc cls d oe) (hf : ∃ vs, oe.data = .fields vs) : CallR (X.suite a ((a, oe) :: pn)) (.builtin "isinstance") (rIsED X.K D a cls d) := by
  intro pins s σ H xs us Q I r h
  obtain ⟨ec0, hdd, c, cv, b, rfl, hcv, e, q⟩ := h
  subst ec0
  cases r with
  | cons rx rr =>
    cases rr with
    | cons rt rr =>
      cases rr
      cases rx
      have ec := hcv _ rt
      subst ec
      obtain ⟨hget, _⟩ := I.pin (a, oe) (List.mem_append.mpr (.inl List.mem_cons_self))
      obtain ⟨vs, hv⟩ := hf
      have J : ∃ od, PySem.W.InstAt s.heap a oe D od := by
        obtain ⟨oc, od, oda, osl⟩ := oe
        obtain ⟨h1, h2⟩ := hz
        dsimp only at h1 h2 hv
        subst h1 h2 hv
        cases od with
        | none => exact ⟨none, hget, rfl, rfl, trivial⟩
        | some dd =>
          obtain ⟨fs, hfs⟩ := hdd dd rfl
          obtain ⟨mA, hns, _⟩ := (show ObjOk X.prog X.w H s.heap dd (.xd fs) from I.hok dd _ hfs)
          obtain ⟨od, ho, _⟩ := lookIn_ns hns
          exact ⟨some od, hget, rfl, rfl, ho⟩
      exact PySem.W.kia_one (PySem.W.kitx_excD C) I.kIn J e (fun z => nomatch z) fun tk => ⟨.bl b, H, I.kept (t' := tk) fun _ _ z => z, rfl, q⟩
end
section
variable {X : Cx} {CX : CXT} {k : Nat} {f C : Addr} {fd : FuncData} {ps : List Str} {sp : Sp} {dvs : List V} {ds : List Value} {E : St → XK} {x m : Str} {p pos apos : Pos} {e o : Expr} {es : List Expr} {ta : TE} {t : TA}
/-- C(e, ..) where what is raised is wished for at the slots as they stand -/
def tMakeS (C : Addr) (sp : Sp) (dvs : List V) (E : St → XK) (t : TA) : TE := fun σ H Q => t σ H fun vs H1 => ∀ x dx, H1 x = none → H1 dx = none → dx ≠ x →
  sp (.ref x :: (vs ++ dvs)) (upd (upd H1 dx (.own x)) x (.ins C dx [])) (fun v H2 => v = .non ∧ Q (.ref x) H2) (fun cls d H2 => E σ cls d H2)
theorem run_makeS {pins : List (Addr × Obj)} {σ : St} {H : Hp} {s : Shared} {Q : VK} {us : List Value} {vs : List V} (M : Mk X.K C f) (F : FnOk X.prog X.w X.K X.mg X.base CX k f fd ps sp) (hr : Room (k + 1) X.A) (hb : Binds X.K fd ps ds) (hd : Vals dvs ds)
    (hx : PassesAt CX X σ (E σ)) (I : Inv X pins σ H s) (r : Vals vs us)
    (h : ∀ x dx, H x = none → H dx = none → dx ≠ x → sp (.ref x :: (vs ++ dvs)) (upd (upd H dx (.own x)) x (.ins C dx [])) (fun v H2 => v = .non ∧ Q (.ref x) H2) (E σ)) :
    wpAny (model X.prog X.w) X.A (call (.ref C) us) (EP X pins σ Q) X.xe s := by
  have hq := h (s.heap.objs.size + 1) s.heap.objs.size (I.hok.fresh (Nat.le_succ _)) (I.hok.fresh (Nat.le_refl _)) (Nat.ne_of_lt (Nat.lt_succ_self _))
  have I2 := Inv.made (C := C) I
  have r2 : Vals (V.ref (s.heap.objs.size + 1) :: (vs ++ dvs)) (Value.ref (s.heap.objs.size + 1) :: (us ++ ds)) := .cons rfl (r.append hd)
  have hl : (Value.ref (s.heap.objs.size + 1) :: us ++ ds).length = ps.length := by
    have e := r2.length
    rw [F.len _ _ _ _ hq] at e
    exact e.symm
  refine wpAny_call (make_map (f := f) I.kIn M.makes M.init (beq_iff_eq.mp M.fn) (codeAny_mono (F.run _ X.stack _ _ ⟨Value.ref (s.heap.objs.size + 1) :: us, []⟩ (Value.ref (s.heap.objs.size + 1) :: (us ++ ds)) _ _ (E σ) (hr.make C us [])
    (I2.env0.make C us []) (hb _ (Value.ref (s.heap.objs.size + 1) :: us) I2.kIn hl) r2 hq) fun r s' hq' => ?_))
  cases r with
  | error e => exact hx pins _ _ e s' I2 hq'
  | ok fl =>
    cases fl with
    | ret u =>
      obtain ⟨v, H', I3, rv, ev, q3⟩ := I2.after hq'
      subst ev
      exact ⟨rv, ⟨V.ref (s.heap.objs.size + 1), H', I3, rfl, q3⟩⟩
    | next => exact False.elim hq'
    | brk => exact False.elim hq'
    | cont => exact False.elim hq'
theorem pe_makeS (M : Mk X.K C f) (F : FnOk X.prog X.w X.K X.mg X.base CX k f fd ps sp) (hr : Room (k + 1) X.A) (hg : Gl X x) (hm : X.mg x = some (.ref C)) (hb : Binds X.K fd ps ds) (hd : Vals dvs ds) (hx : ∀ σ, PassesAt CX X σ (E σ))
    (ha : PA X (e :: es) t) (hdb : (x == ("__debug__" : Str)) = false := by decide) (he : starEach (e :: es) X.env = (false, eval e X.env) :: starEach es X.env := by rfl) (hpl : (backTo pos (starEach es X.env)).any (·.1) = false := by rfl) :
    PE X (.Call (.Name x p) (e :: es) [] pos) (tMakeS C sp dvs E t) := by
  refine ⟨fun pins s σ H Q I h => ?_⟩
  refine wpAny_Call_Name_kw (ld_glob I hg hm ?_ hdb)
  refine PySem.W.callWith_K (h₀ := X.base) I.ok.mod.kin M.kp (thn (ha.run pos pins s σ H _ I h) fun us s1 ⟨vs, H1, I1, r, q⟩ => ⟨I1.kIn, ?_⟩) he hpl
  exact run_makeS M F hr hb hd (hx σ) I1 r q
/-- o.m(e, ..) | o.m() likewise -/
def tMethSD (C : Addr) (m : Str) (sp : Sp) (dvs : List V) (E : St → XK) (ta : TE) (t : TA) : TE := fun σ H Q => ta σ H fun x H1 => ∃ a dx fs, x = .ref a ∧ H1 a = some (.ins C dx fs) ∧ fs.lookup m = none ∧
  t σ H1 fun vs H2 => sp (x :: (vs ++ dvs)) H2 Q (E σ)
theorem pe_methSD {pl : Sem Bool} (he : PE X o ta) (c : Cls X.K C) (hm : Meth X.K C m f) (F : FnOk X.prog X.w X.K X.mg X.base CX k f fd ps sp) (hr : Room k X.A) (hb : Binds X.K fd ps ds) (hd : Vals dvs ds) (hx : ∀ σ, PassesAt CX X σ (E σ)) (ha : PA X (e :: es) t)
    (hst : starEach (e :: es) X.env = (false, eval e X.env) :: starEach es X.env := by rfl) (hpl : (backTo pos (starEach es X.env)).any (·.1) = false := by rfl)
    (ht : eval (.Call (.Attribute o m apos) (e :: es) [] pos) X.env = (do
      let ov ← eval o X.env
      standAt apos.atName
      let (f, first) ← holding [ov] (getMethod ov m pl)
      callWith pos f first (backTo pos (starEach (e :: es) X.env)) (backToKw pos (keywordEach [] X.env))) := by rfl) :
    PE X (.Call (.Attribute o m apos) (e :: es) [] pos) (tMethSD C m sp dvs E ta t) := by
  refine ⟨fun pins s σ H Q I h => ?_⟩
  refine PySem.W.methodCall_KW (pl := pl) (thn (he.run pins s σ H _ I h) fun u s1 ⟨x, H1, I1, rx, a, dx, fs, ex, ea, l, q⟩ => ?_) ht
  subst ex
  obtain rfl : u = Value.ref a := rx
  refine getmeth_ok I1 ea c hm l ?_
  refine PySem.W.callWith_K (first := [.ref a]) (h₀ := X.base) I.ok.mod.kin hm.kp (thn (ha.run pos pins s1 σ H1 _ I1 q) fun us s2 ⟨vs, H2, I2, r, q2⟩ => ⟨I2.kIn, ?_⟩) hst hpl
  exact run_fnSD (us := .ref a :: us) (vs := .ref a :: vs) F hr hb hd (hx σ) I2 (.cons rfl r) q2
theorem pe_methSD0 {pl : Sem Bool} (he : PE X o ta) (c : Cls X.K C) (hm : Meth X.K C m f) (F : FnOk X.prog X.w X.K X.mg X.base CX k f fd ps sp) (hr : Room k X.A) (hb : Binds X.K fd ps ds) (hd : Vals dvs ds) (hx : ∀ σ, PassesAt CX X σ (E σ))
    (ht : eval (.Call (.Attribute o m apos) [] [] pos) X.env = (do
      let ov ← eval o X.env
      standAt apos.atName
      let (f, first) ← holding [ov] (getMethod ov m pl)
      callWith pos f first (backTo pos (starEach [] X.env)) (backToKw pos (keywordEach [] X.env))) := by rfl) :
    PE X (.Call (.Attribute o m apos) [] [] pos) (tMethSD C m sp dvs E ta tNil) := by
  refine ⟨fun pins s σ H Q I h => ?_⟩
  refine PySem.W.methodCall_KW (pl := pl) (thn (he.run pins s σ H _ I h) fun u s1 ⟨x, H1, I1, rx, a, dx, fs, ex, ea, l, q⟩ => ?_) ht
  subst ex
  obtain rfl : u = Value.ref a := rx
  refine getmeth_ok I1 ea c hm l ?_
  exact PySem.W.callWith_K0 (first := [.ref a]) I1.kIn hm.kp (run_fnSD (us := [.ref a]) (vs := [.ref a]) F hr hb hd (hx σ) I1 (.cons rfl .nil) q)
end

/-! ### own errors with one field -/
/-- what __init__ of such an error does: self.f = v -/
def spXI (C : Addr) (f : Str) : Sp := fun vs H Q _ => ∃ (a : Addr) (y : V), vs = [.ref a, y] ∧ H a = some (exo a C none) ∧ ∀ dx, H dx = none → dx ≠ a → Q .non (upd (upd H dx (exd dx [(f, y)])) a (exo a C (some dx)))
/-- all that is asked of the class x of errors at C, whose field is f -/
structure XCls (P : Program) (w : World) (K : PySem.W.Frag) (mg : Str → Option Value) (base : Heap) (x f : Str) (C : Addr) : Prop where
  ox : OexC K C
  gC : mg x = some (.ref C)
  noA : PySem.W.findIn K (.ref C) f = some none
  ec : ExcC K C
  ini : ∃ (fI : Addr) (fd : FuncData), PySem.W.findIn K (.ref C) "__init__" = some (some (.ref fI)) ∧ PySem.W.typeIn K (.ref fI) = some (.type "function") ∧ FnOk P w K mg base CX0 1 fI fd ["self", f] (spXI C f) ∧ Binds K fd ["self", f] []
theorem XCls.xf {P : Program} {w : World} {K : PySem.W.Frag} {mg : Str → Option Value} {base : Heap} {x f : Str} {C : Addr} (T : XCls P w K mg base x f C) : XfC K C := ⟨T.ec.hg, T.ec.hk, T.ec.hs, T.ec.hd⟩
section
variable {X : Cx} {C : Addr} {x f : Str} {e : Expr} {te : TE} {p pos pos2 : Pos}
theorem pmk_X (T : XCls X.prog X.w X.K X.mg X.base x f C) (hr : Room 2 X.A) (he : PE X e te) (hg : Gl X x) (hdb : (x == ("__debug__" : Str)) = false := by decide)
    (hs : starEach [e] X.env = (false, eval e X.env) :: starEach [] X.env := by rfl) (hpl : (backTo pos (starEach [] X.env)).any (·.1) = false := by rfl) :
    PMk X (.Call (.Name x p) [e] [] pos) (tMkO C (spXI C f) [] (tCons te tNil)) := by
  obtain ⟨fI, fd, i1, i2, F, b⟩ := T.ini
  exact pmk_oex (dvs := []) (ds := []) T.ox i1 i2 F hr b .nil pass0 hg T.gC (pa_cons he pa_nil hs) hdb hs hpl
/-- what is left to be shown behind the argument y -/
theorem mkX_fin {H1 : Hp} {y : V} {Q : XK} (h : ∀ d, H1 d = none → Q (.ref C) (some d) (upd H1 d (.xd [(f, y)]))) :
    [y].length ≤ 1000 ∧ ∀ a, H1 a = none → spXI C f (.ref a :: ([y] ++ [])) (upd H1 a (exo a C none))
      (fun v H2 => v = .non ∧ ∃ (d : Addr) (fs : List (Str × V)), H2 a = some (exo a C (some d)) ∧ H2 d = some (exd d fs) ∧ H1 d = none ∧ Q (.ref C) (some d) (upd (del H2 a) d (.xd fs))) (fun _ _ _ => False) := by
  refine ⟨by show 1 ≤ 1000; decide, fun a ha => ⟨a, y, rfl, upd_same, fun dx hdx hne => ⟨rfl, dx, [(f, y)], upd_same, ?_, ?_, ?_⟩⟩⟩
  · rw [upd_ne hne, upd_same]
  · rw [upd_ne hne] at hdx
    exact hdx
  · have hdx' : H1 dx = none := by
      rw [upd_ne hne] at hdx
      exact hdx
    have e : upd (del (upd (upd (upd H1 a (exo a C none)) dx (exd dx [(f, y)])) a (exo a C (some dx))) a) dx (.xd [(f, y)]) = upd H1 dx (.xd [(f, y)]) := by
      funext b
      by_cases hb : b = dx
      · rw [hb, upd_same, upd_same]
      · rw [upd_ne hb, upd_ne hb]
        by_cases hba : b = a
        · rw [hba, del_same, ha]
        · rw [del_ne hba, upd_ne hba, upd_ne hb, upd_ne hba]
    rw [e]
    exact h dx hdx'
end
end L2

set_option Elab.async false
set_option maxRecDepth 100000
set_option maxHeartbeats 4000000
namespace L2
open PySem PySem.Spec PyProof.Rows
section
variable (P : Program) (w : World) (K : PySem.W.Frag) (mg : Str → Option Value) (base : Heap)
/-- a def of the top, as the text has it -/
structure DefAt (x : Str) (st : Stmt) (ps : List Str) : Prop where
  ex : ∃ (f : Addr) (fd : FuncData), Fun K x x st f fd ∧ mg x = some (.ref f) ∧ Binds K fd ps []
/-- a def of the top that keeps its promise -/
structure Own (CX : CXT) (x : Str) (k : Nat) (ps : List Str) (sp : Sp) : Prop where
  ex : ∃ (f : Addr) (fd : FuncData), FnOk P w K mg base CX k f fd ps sp ∧ mg x = some (.ref f) ∧ PySem.W.keepIn K (.ref f) = true ∧ Binds K fd ps []
/-- a method of the class at C, as the text has it; one that keeps its promise -/
structure MethAt (C : Addr) (m qual : Str) (st : Stmt) (ps : List Str) : Prop where
  ex : ∃ (f : Addr) (fd : FuncData), Fun K m qual st f fd ∧ PySem.W.findIn K (.ref C) m = some (some (.ref f)) ∧ PySem.W.isFn K (.ref f) = true ∧ Binds K fd ps []
structure OwnM (CX : CXT) (C : Addr) (m : Str) (k : Nat) (ps : List Str) (sp : Sp) : Prop where
  ex : ∃ (f : Addr) (fd : FuncData), FnOk P w K mg base CX k f fd ps sp ∧ Meth K C m f ∧ PySem.W.isFn K (.ref f) = true ∧ Binds K fd ps []
/-- a class of the top with an own __init__ that keeps its promise -/
structure OwnC (CX : CXT) (x : Str) (C : Addr) (k : Nat) (ps : List Str) (sp : Sp) : Prop where
  ex : ∃ (f : Addr) (fd : FuncData), FnOk P w K mg base CX k f fd ps sp ∧ Mk K C f ∧ mg x = some (.ref C) ∧ Binds K fd ps []
end
section
variable {P : Program} {w : World} {K : PySem.W.Frag} {mg : Str → Option Value} {base : Heap} {CX : CXT} {x m qual : Str} {k : Nat} {ps : List Str} {sp : Sp} {st : Stmt} {C : Addr}
theorem DefAt.own (D : DefAt K mg x st ps) (h : ∀ f fd, Fun K x x st f fd → FnOk P w K mg base CX k f fd ps sp) : Own P w K mg base CX x k ps sp := by
  obtain ⟨f, fd, F, hm, hb⟩ := D.ex
  exact ⟨f, fd, h f fd F, hm, F.kp, hb⟩
theorem MethAt.own (D : MethAt K C m qual st ps) (h : ∀ f fd, Fun K m qual st f fd → FnOk P w K mg base CX k f fd ps sp) : OwnM P w K mg base CX C m k ps sp := by
  obtain ⟨f, fd, F, hm, hi, hb⟩ := D.ex
  exact ⟨f, fd, h f fd F, ⟨hm, hi, F.kp⟩, hi, hb⟩
theorem MethAt.cls (D : MethAt K C "__init__" qual st ps) (h : ∀ f fd, Fun K "__init__" qual st f fd → FnOk P w K mg base CX k f fd ps sp) (m1 : PySem.W.makesIn K C = true) (m2 : PySem.W.keepIn K (.ref C) = true) (m3 : mg x = some (.ref C)) :
    OwnC P w K mg base CX x C k ps sp := by
  obtain ⟨f, fd, F, hm, hi, hb⟩ := D.ex
  exact ⟨f, fd, h f fd F, ⟨m1, hm, hi, m2⟩, m3, hb⟩
end
section
variable {X : Cx} {CX : CXT} {x m : Str} {k : Nat} {ps : List Str} {sp : Sp} {e o : Expr} {es : List Expr} {t : TA} {ta : TE} {p pos apos : Pos} {C : Addr}
theorem pe_own (O : Own X.prog X.w X.K X.mg X.base CX x k ps sp) (hr : Room k X.A) (hx : Passes CX X E0) (ha : PA X (e :: es) t) (hg : Gl X x := by rfl) (hdb : (x == ("__debug__" : Str)) = false := by decide)
    (he : starEach (e :: es) X.env = (false, eval e X.env) :: starEach es X.env := by rfl) (hpl : (backTo pos (starEach es X.env)).any (·.1) = false := by rfl) : PE X (.Call (.Name x p) (e :: es) [] pos) (tCall sp [] E0 t) := by
  obtain ⟨f, fd, F, hm, hk, hb⟩ := O.ex
  exact pe_call F hr hg hm hk hb .nil hx ha hdb he hpl
theorem pe_own0 (O : Own X.prog X.w X.K X.mg X.base CX x k ps sp) (hr : Room k X.A) (hx : Passes CX X E0) (hg : Gl X x := by rfl) (hdb : (x == ("__debug__" : Str)) = false := by decide) : PE X (.Call (.Name x p) [] [] pos) (tCall sp [] E0 tNil) := by
  obtain ⟨f, fd, F, hm, hk, hb⟩ := O.ex
  exact pe_call0 F hr hg hm hk hb .nil hx hdb
/-- one that may raise; W is wished for what it raises -/
theorem pe_ownS {W : WX} (O : Own X.prog X.w X.K X.mg X.base (L2.CX X.prog X.w) x k ps sp) (hr : Room k X.A) (tk : Takes X W) (ha : PA X (e :: es) t) (hg : Gl X x := by rfl) (hdb : (x == ("__debug__" : Str)) = false := by decide)
    (he : starEach (e :: es) X.env = (false, eval e X.env) :: starEach es X.env := by rfl) (hpl : (backTo pos (starEach es X.env)).any (·.1) = false := by rfl) : PE X (.Call (.Name x p) (e :: es) [] pos) (tCallS sp (WE W) t) := by
  obtain ⟨f, fd, F, hm, hk, hb⟩ := O.ex
  exact pe_callS F hr hg hm hk hb (fun σ => passAt tk σ) ha hdb he hpl
theorem pe_new (O : OwnC X.prog X.w X.K X.mg X.base CX x C k ps sp) (hr : Room (k + 1) X.A) (hx : Passes CX X E0) (ha : PA X (e :: es) t) (hg : Gl X x := by rfl) (hdb : (x == ("__debug__" : Str)) = false := by decide)
    (he : starEach (e :: es) X.env = (false, eval e X.env) :: starEach es X.env := by rfl) (hpl : (backTo pos (starEach es X.env)).any (·.1) = false := by rfl) : PE X (.Call (.Name x p) (e :: es) [] pos) (tMake C sp [] E0 t) := by
  obtain ⟨f, fd, F, M, hm, hb⟩ := O.ex
  exact pe_make M F hr hg hm hb .nil hx ha hdb he hpl
theorem pe_newS {W : WX} (O : OwnC X.prog X.w X.K X.mg X.base (L2.CX X.prog X.w) x C k ps sp) (hr : Room (k + 1) X.A) (tk : Takes X W) (ha : PA X (e :: es) t) (hg : Gl X x := by rfl) (hdb : (x == ("__debug__" : Str)) = false := by decide)
    (he : starEach (e :: es) X.env = (false, eval e X.env) :: starEach es X.env := by rfl) (hpl : (backTo pos (starEach es X.env)).any (·.1) = false := by rfl) : PE X (.Call (.Name x p) (e :: es) [] pos) (tMakeS C sp [] (WE W) t) := by
  obtain ⟨f, fd, F, M, hm, hb⟩ := O.ex
  exact pe_makeS M F hr hg hm hb .nil (fun σ => passAt tk σ) ha hdb he hpl
theorem pe_gint {n : Int} (hm : ∃ t, X.mg x = some (.int n t)) (hg : Gl X x := by rfl) (hd : (x == ("__debug__" : Str)) = false := by decide) : PE X (.Name x pos) (tC (.int n)) := by
  obtain ⟨t, hm⟩ := hm
  exact pe_glob hg hm ⟨t, rfl⟩ hd
theorem pe_gcls (hm : X.mg x = some (.ref C)) (hg : Gl X x := by rfl) (hd : (x == ("__debug__" : Str)) = false := by decide) : PE X (.Name x pos) (tC (.ref C)) := pe_glob hg hm rfl hd
end
/-! ### ==, != by own methods, len -/
section
variable {X : Cx} {CX : CXT} {k : Nat} {C : Addr} {ps : List Str} {sp : Sp}
structure NeM (K : PySem.W.Frag) (C : Addr) : Prop where
  ne : PySem.W.findIn K (.ref C) "__ne__" = some (some (.builtin "object.__ne__"))
  ob : PySem.W.mroIn K C (.type "object") = some true
theorem eqO (O : OwnM X.prog X.w X.K X.mg X.base CX C "__eq__" k ps sp) (N : NeM X.K C) (hr : Room k X.A) (hx : Passes CX X E0) : OpR X (compareOp .Eq) (rEqO X.K C sp) := by
  obtain ⟨f, fd, F, M, hi, hb⟩ := O.ex
  exact op_eqO F ⟨M.at_, hi, N.ne, N.ob⟩ hr hb hx
theorem neO (O : OwnM X.prog X.w X.K X.mg X.base CX C "__eq__" k ps sp) (N : NeM X.K C) (hr : Room (k + 1) X.A) (hx : Passes CX X E0) : OpR X (compareOp .NotEq) (rNeO X.K C sp) := by
  obtain ⟨f, fd, F, M, hi, hb⟩ := O.ex
  exact op_neO F ⟨M.at_, hi, N.ne, N.ob⟩ hr hb hx
theorem lenO (O : OwnM X.prog X.w X.K X.mg X.base CX C "__len__" k ps sp) (hr : Room (k + 1) X.A) (hx : Passes CX X E0) : CallR X (.builtin "len") (rLenO C sp) := by
  obtain ⟨f, fd, F, M, hi, hb⟩ := O.ex
  exact call_lenO F M.at_ hi hr hb hx
end
end L2

set_option Elab.async false
set_option maxRecDepth 100000
set_option maxHeartbeats 4000000
/-! kinds of plain values; their isinstance -/
namespace L2
open PySem PySem.Spec PyProof.Rows
inductive Knd | int | bool | none | str | list | tuple
  deriving DecidableEq
def Knd.name : Knd → String
  | .int => "int" | .bool => "bool" | .none => "NoneType" | .str => "str" | .list => "list" | .tuple => "tuple"
def KndOf (H : Hp) (v : V) : Knd → Prop
  | .int => ∃ n, v = .int n
  | .bool => ∃ b, v = .bl b
  | .none => v = .non
  | .str => ∃ s, v = .str s
  | .list => ∃ a xs, v = .ref a ∧ H a = some (.lst xs)
  | .tuple => ∃ a xs, v = .ref a ∧ H a = some (.tup xs)
def Knd.isInt : Knd → Bool | .int => true | .bool => true | _ => false
def Knd.isBool : Knd → Bool | .bool => true | _ => false
def Knd.isSeq : Knd → Bool | .list => true | .tuple => true | _ => false
def Knd.isTup : Knd → Bool | .tuple => true | _ => false
def Knd.isList : Knd → Bool | .list => true | _ => false
def Knd.isStr : Knd → Bool | .str => true | _ => false
section
variable {K : PySem.W.Frag} {H : Hp} {v : V} {k : Knd}
theorem knd_ty (h : KndOf H v k) : TyX K H v (.type k.name) := by
  cases k with
  | int => obtain ⟨n, rfl⟩ := h; exact .base (.int n)
  | bool => obtain ⟨n, rfl⟩ := h; exact .base (.bl n)
  | none => cases h; exact .base .non
  | str => obtain ⟨n, rfl⟩ := h; exact .base (.str n)
  | list => obtain ⟨a, xs, rfl, e⟩ := h; exact .base (.lst e)
  | tuple => obtain ⟨a, xs, rfl, e⟩ := h; exact .base (.tup e)
theorem knd_int : PySem.W.kitOne K (.type k.name) (.type "int") = some k.isInt := by cases k <;> exact kit_ty (by decide +kernel)
theorem knd_bool : PySem.W.kitOne K (.type k.name) (.type "bool") = some k.isBool := by cases k <;> exact kit_ty (by decide +kernel)
theorem knd_tup : PySem.W.kitOne K (.type k.name) (.type "tuple") = some k.isTup := by cases k <;> exact kit_ty (by decide +kernel)
theorem knd_list : PySem.W.kitOne K (.type k.name) (.type "list") = some k.isList := by cases k <;> exact kit_ty (by decide +kernel)
theorem knd_str : PySem.W.kitOne K (.type k.name) (.type "str") = some k.isStr := by cases k <;> exact kit_ty (by decide +kernel)
theorem knd_seq : PySem.W.kitAny K (.type k.name) [.type "list", .type "tuple"] = some k.isSeq := by
  cases k
  case list => exact kitAny_cons knd_list (by intro h; cases h) (fun _ => rfl)
  case tuple => exact kitAny_cons knd_list (fun _ => kitAny_cons knd_tup (by intro h; cases h) (fun _ => rfl)) (by intro h; cases h)
  all_goals exact kitAny_cons knd_list (fun _ => kitAny_cons knd_tup (fun _ => kitAny_nil) (by intro h; cases h)) (by intro h; cases h)
theorem KndOf.ext {H' : Hp} (h : KndOf H v k) (e : Ext H H') : KndOf H' v k := by
  cases k with
  | list => obtain ⟨a, xs, r, q⟩ := h; exact ⟨a, xs, r, e _ _ q⟩
  | tuple => obtain ⟨a, xs, r, q⟩ := h; exact ⟨a, xs, r, e _ _ q⟩
  | _ => exact h
theorem ki (n : Int) : KndOf H (.int n) .int := ⟨n, rfl⟩
theorem kb (n : Bool) : KndOf H (.bl n) .bool := ⟨n, rfl⟩
theorem kn : KndOf H .non .none := rfl
theorem ks (n : Str) : KndOf H (.str n) .str := ⟨n, rfl⟩
end
/-- a value that is an int from a to b -/
def betw (v : V) (a b : Int) : Bool := match v with
  | .int n => decide (a ≤ n) && decide (n ≤ b)
  | _ => false
theorem betw_int {n a b : Int} : betw (.int n) a b = (decide (a ≤ n) && decide (n ≤ b)) := rfl
theorem betw_not {H : Hp} {v : V} {k : Knd} {a b : Int} (h : KndOf H v k) (hk : (k.isInt && !k.isBool) = false) : betw v a b = false := by
  cases k with
  | int => cases hk
  | bool => obtain ⟨n, rfl⟩ := h; rfl
  | none => cases h; rfl
  | str => obtain ⟨n, rfl⟩ := h; rfl
  | list => obtain ⟨n, xs, rfl, _⟩ := h; rfl
  | tuple => obtain ⟨n, xs, rfl, _⟩ := h; rfl
theorem knd_yes {k : Knd} (h : (k.isInt && !k.isBool) = true) : k = .int := by cases k <;> first | rfl | cases h
/-! ### isinstance, read -/
section
variable {K : PySem.W.Frag} {σ : St} {H : Hp} {v : V} {k : Knd} {Q : VK} {te : TE}
theorem v_isI (hk : KndOf H v k) {b : Bool} {c : String} (e : PySem.W.kitOne K (.type k.name) (.type c) = some b) (q : Q (.bl b) H) : rIsi K [v, .ty c] H Q :=
  ⟨v, .ty c, .type k.name, .type c, b, rfl, .ty c, knd_ty hk, e, q⟩
end
end L2

set_option Elab.async false
set_option maxRecDepth 100000
set_option maxHeartbeats 4000000
namespace L2
open PySem PySem.Spec PyProof.Rows
section
variable {K : PySem.W.Frag} {C : Addr}
theorem no_ref (l : List String) : (l.map Value.type).contains (Value.ref C) = false := by
  induction l with
  | nil => rfl
  | cons a l ih =>
    rw [List.map_cons, List.contains_cons, ih]
    rfl
theorem sub_ty_ref {T : String} (h : (fastFind? T).isSome = true) : PySem.W.subIn K (.type T) (.ref C) = some false := by
  obtain ⟨r, hr⟩ := Option.isSome_iff_exists.mp h
  show (fastBuiltinMro T).map (·.contains (Value.ref C)) = some false
  unfold fastBuiltinMro
  rw [hr]
  show some ((r.mro.map Value.type).contains (Value.ref C)) = some false
  rw [no_ref]
theorem knd_find (k : Knd) : (fastFind? k.name).isSome = true := by cases k <;> decide +kernel
/-- all that is asked of an own plain class x at C -/
structure ClsX (K : PySem.W.Frag) (mg : Str → Option Value) (x : Str) (C : Addr) : Prop where
  gC : mg x = some (.ref C)
  cl : Cls K C
  ha : PySem.W.findIn K (.ref C) "__class__" = some (some (.builtin "object.__class__"))
  hn : PySem.W.specialIn K (.builtin "object.__class__") "__get__" = some (some (.builtin "getset_descriptor.__get__"))
  htk : PySem.W.takesIn K (.builtin "object.__class__") = some true
  hm : PySem.W.mroIn K C (.type "object") = some true
  ne : PySem.W.findIn K (.ref C) "__ne__" = some (some (.builtin "object.__ne__"))
  is : PySem.W.isClsIn K C = true
  ty : PySem.W.typeIn K (.ref C) = some (.type "type")
  tup : PySem.W.subIn K (.ref C) (.type "tuple") = some false
  lst : PySem.W.subIn K (.ref C) (.type "list") = some false
  int : PySem.W.subIn K (.ref C) (.type "int") = some false
  str : PySem.W.subIn K (.ref C) (.type "str") = some false
variable {mg : Str → Option Value} {x : Str}
theorem ClsX.neM (T : ClsX K mg x C) : NeM K C := ⟨T.ne, T.hm⟩
theorem ClsX.tyOf (T : ClsX K mg x C) {H : Hp} {a dx : Addr} {fs : List (Str × V)} (e : H a = some (.ins C dx fs)) : TyX K H (.ref a) (.ref C) := .base (.ins e T.cl T.ha T.hn T.htk T.hm)
theorem ClsX.me (_ : ClsX K mg x C) : PySem.W.kitOne K (.ref C) (.ref C) = some true := if_pos (beq_self_eq_true _)
theorem ClsX.nfMe (_ : ClsX K mg x C) : PySem.W.notFirst K C (.ref C) = true := by
  show (Value.ref C == Value.ref C || _) = true
  rw [beq_self_eq_true]
  rfl
theorem ClsX.kitB (T : ClsX K mg x C) {t : Value} {b : Bool} (h : PySem.W.subIn K t (.ref C) = some b) (hne : (t == .ref C) = false) : PySem.W.kitOne K t (.ref C) = some b := by
  have e : ((PySem.W.clsIn K C).isSome && PySem.W.typeIn K (.ref C) == some (.type "type")) = true := by
    have h1 : (PySem.W.clsIn K C).isSome = true := T.is
    rw [h1, T.ty]
    rfl
  show (if (t == Value.ref C) = true then some true else if ((PySem.W.clsIn K C).isSome && PySem.W.typeIn K (.ref C) == some (.type "type")) = true then PySem.W.subIn K t (.ref C) else none) = some b
  rw [hne, if_neg Bool.false_ne_true, if_pos e]
  exact h
theorem ClsX.kitK (T : ClsX K mg x C) (k : Knd) : PySem.W.kitOne K (.type k.name) (.ref C) = some false := T.kitB (sub_ty_ref (knd_find k)) rfl
theorem ClsX.nfK (_ : ClsX K mg x C) (k : Knd) : PySem.W.notFirst K C (.type k.name) = true := by
  show (Value.type k.name == Value.ref C || PySem.W.subIn K (.type k.name) (.ref C) == some false) = true
  rw [sub_ty_ref (knd_find k)]
  exact Bool.or_eq_true_iff.mpr (.inr (by decide))
theorem kit_meta {T : String} {b : Bool} (h : PySem.W.subIn K (.ref C) (.type T) = some b) (hm : PySem.W.kitMeta T = true) : PySem.W.kitOne K (.ref C) (.type T) = some b := by
  show (if (Value.ref C == Value.type T) = true then some true else if PySem.W.kitMeta T = true then PySem.W.subIn K (.ref C) (.type T) else none) = some b
  rw [show (Value.ref C == Value.type T) = false from rfl, if_neg Bool.false_ne_true, if_pos hm]
  exact h
theorem ClsX.kTup (T : ClsX K mg x C) : PySem.W.kitOne K (.ref C) (.type "tuple") = some false := kit_meta T.tup (by decide +kernel)
theorem ClsX.kInt (T : ClsX K mg x C) : PySem.W.kitOne K (.ref C) (.type "int") = some false := kit_meta T.int (by decide +kernel)
theorem ClsX.kLst (T : ClsX K mg x C) : PySem.W.kitOne K (.ref C) (.type "list") = some false := kit_meta T.lst (by decide +kernel)
theorem ClsX.kStr (T : ClsX K mg x C) : PySem.W.kitOne K (.ref C) (.type "str") = some false := kit_meta T.str (by decide +kernel)
end
/-! ### an own error's class, from what the top has written -/
section
variable {P : Program} {w : World} {K : PySem.W.Frag} {mg : Str → Option Value} {base : Heap} {x f : Str} {C : Addr}
/-- what k_is finds of the class -/
structure XAt (K : PySem.W.Frag) (mg : Str → Option Value) (x f : Str) (C : Addr) (st : Stmt) (qual : Str) : Prop where
  ox : OexC K C
  gC : mg x = some (.ref C)
  noA : PySem.W.findIn K (.ref C) f = some none
  ec : ExcC K C
  tI : ∃ fI, PySem.W.findIn K (.ref C) "__init__" = some (some (.ref fI)) ∧ PySem.W.typeIn K (.ref fI) = some (.type "function") ∧ ∃ fd, Fun K "__init__" qual st fI fd ∧ Binds K fd ["self", f] []
theorem XAt.cls {st : Stmt} {qual : Str} (T : XAt K mg x f C st qual) (h : ∀ fI fd, Fun K "__init__" qual st fI fd → FnOk P w K mg base CX0 1 fI fd ["self", f] (spXI C f)) : XCls P w K mg base x f C := by
  obtain ⟨fI, i1, i2, fd, F, b⟩ := T.tI
  exact ⟨T.ox, T.gC, T.noA, T.ec, fI, fd, i1, i2, h fI fd F, b⟩
end
/-! ### fields -/
section
theorem lk_put {f g : Str} {v : V} {fs : List (Str × V)} : List.lookup g ((f, v) :: fs) = if (g == f) = true then some v else List.lookup g fs := by
  simp only [List.lookup]
  split
  · rename_i h; rw [h, if_pos rfl]
  · rename_i h; rw [h, if_neg Bool.false_ne_true]
end
end L2

set_option Elab.async false
set_option maxRecDepth 100000
set_option maxHeartbeats 4000000
/-! plain data: lists and tuples of flat values, compared -/
namespace L2
open PySem PySem.Spec PyProof.Rows
def pd : V → PyData
  | .int i => .int i
  | .bl b => .bool b
  | .str s => .str s
  | _ => .none
/-- flat, its text (if it is one) within the model's signs -/
def Fl : V → Prop
  | .int _ => True
  | .bl _ => True
  | .non => True
  | .str s => PySem.PyData.canLay0 (.str s) = true
  | _ => False
section
variable {K : PySem.W.Frag} {H : Hp} {v u : V}
theorem dp_fl (h : Fl v) : Dp K H v (pd v) := by
  cases v <;> first | exact .int _ | exact .bl _ | exact .str _ | exact .non | exact h.elim
theorem dp_all : ∀ {vs : List V}, (∀ v ∈ vs, Fl v) → DpAll K H vs (vs.map pd)
  | [], _ => .nil
  | v :: vs, h => .cons (dp_fl (h v List.mem_cons_self)) (dp_all fun u hu => h u (List.mem_cons_of_mem _ hu))
theorem lay_fl (h : Fl v) : (pd v).canLay0 = true := by
  cases v <;> first | rfl | exact h | exact h.elim
theorem dep_fl : (pd v).depth = 0 := by cases v <;> rfl
theorem lay_all : ∀ {vs : List V}, (∀ v ∈ vs, Fl v) → PyData.canLayAll0 (vs.map pd) = true ∧ PyData.depthAll (vs.map pd) = 0
  | [], _ => ⟨rfl, rfl⟩
  | v :: vs, h => by
    obtain ⟨a, b⟩ := lay_all (vs := vs) fun u hu => h u (List.mem_cons_of_mem _ hu)
    constructor
    · show ((pd v).canLay0 && PyData.canLayAll0 (vs.map pd)) = true
      rw [lay_fl (h v List.mem_cons_self), a]
      rfl
    · show max (pd v).depth (PyData.depthAll (vs.map pd)) = 0
      rw [dep_fl, b]
      rfl
theorem shp_fl (h : Fl v) : SeqAt.shaped (pd v) = true := by
  show ((pd v).canLay0 && decide ((pd v).depth ≤ 64)) = true
  rw [lay_fl h, dep_fl]
  rfl
theorem shp_tup {vs : List V} (h : ∀ v ∈ vs, Fl v) : SeqAt.shaped (.tuple (vs.map pd)) = true := by
  obtain ⟨a, b⟩ := lay_all h
  show (PyData.canLayAll0 (vs.map pd) && decide (PyData.depthAll (vs.map pd) + 1 ≤ 64)) = true
  rw [a, b]
  rfl
theorem shp_lst {vs : List V} (h : ∀ v ∈ vs, Fl v) : SeqAt.shaped (.list (vs.map pd)) = true := by
  obtain ⟨a, b⟩ := lay_all h
  show (PyData.canLayAll0 (vs.map pd) && decide (PyData.depthAll (vs.map pd) + 1 ≤ 64)) = true
  rw [a, b]
  rfl
theorem fl_int (n : Int) : Fl (.int n) := trivial
theorem fl_ints {ns : List Int} : ∀ v ∈ ns.map V.int, Fl v := fun v hv => by
  obtain ⟨n, _, rfl⟩ := List.mem_map.mp hv
  trivial
theorem eqv_ints : ∀ (ns ms : List Int), PyData.eqvAll ((ns.map V.int).map pd) ((ms.map V.int).map pd) = decide (ns = ms)
  | [], [] => rfl
  | [], _ :: _ => rfl
  | _ :: _, [] => rfl
  | n :: ns, m :: ms => by
    show ((n == m) && PyData.eqvAll ((ns.map V.int).map pd) ((ms.map V.int).map pd)) = decide (n :: ns = m :: ms)
    rw [eqv_ints ns ms, Bool.eq_iff_iff]
    simp
/-- the same values are equal data -/
theorem eqv_same : ∀ {vs : List V}, (∀ v ∈ vs, Fl v) → PyData.eqvAll (vs.map pd) (vs.map pd) = true
  | [], _ => rfl
  | v :: vs, h => by
    show (PyData.eqv (pd v) (pd v) && PyData.eqvAll (vs.map pd) (vs.map pd)) = true
    rw [eqv_same (vs := vs) fun u hu => h u (List.mem_cons_of_mem _ hu), Bool.and_true]
    cases v <;> first | rfl | (show (_ == _) = true; exact beq_self_eq_true _)
/-- two tuples compared (op_eqD, op_neD): what is left -/
theorem eqD_tup {p q : Addr} {vs us : List V} {Q : VK} (hp : SqT K H p vs) (hq : SqT K H q us) (fv : ∀ v ∈ vs, Fl v) (fu : ∀ v ∈ us, Fl v) (h : Q (.bl (PyData.eqvAll (vs.map pd) (us.map pd))) H) : rEqD K (.ref p) (.ref q) H Q :=
  ⟨_, _, .tup hp (dp_all fv), .tup hq (dp_all fu), shp_tup fv, shp_tup fu, h⟩
theorem neD_tup {p q : Addr} {vs us : List V} {Q : VK} (hp : SqT K H p vs) (hq : SqT K H q us) (fv : ∀ v ∈ vs, Fl v) (fu : ∀ v ∈ us, Fl v) (h : Q (.bl (!PyData.eqvAll (vs.map pd) (us.map pd))) H) : rNeD K (.ref p) (.ref q) H Q :=
  ⟨_, _, .tup hp (dp_all fv), .tup hq (dp_all fu), shp_tup fv, shp_tup fu, h⟩
theorem eqD_lst {p q : Addr} {vs us : List V} {Q : VK} (hp : SqL K H p vs) (hq : SqL K H q us) (fv : ∀ v ∈ vs, Fl v) (fu : ∀ v ∈ us, Fl v) (h : Q (.bl (PyData.eqvAll (vs.map pd) (us.map pd))) H) : rEqD K (.ref p) (.ref q) H Q :=
  ⟨_, _, .lst hp (dp_all fv), .lst hq (dp_all fu), shp_lst fv, shp_lst fu, h⟩
theorem neD_lst {p q : Addr} {vs us : List V} {Q : VK} (hp : SqL K H p vs) (hq : SqL K H q us) (fv : ∀ v ∈ vs, Fl v) (fu : ∀ v ∈ us, Fl v) (h : Q (.bl (!PyData.eqvAll (vs.map pd) (us.map pd))) H) : rNeD K (.ref p) (.ref q) H Q :=
  ⟨_, _, .lst hp (dp_all fv), .lst hq (dp_all fu), shp_lst fv, shp_lst fu, h⟩
end
end L2

set_option Elab.async false
set_option maxRecDepth 100000
set_option maxHeartbeats 4000000
namespace L2
open PySem PySem.Spec PyProof.Rows
section
variable {X : Cx}
/-- range(j), kept -/
theorem cr_range1 : CallR X (.type "range") (fun vs H Q => ∃ j, vs = [V.int j] ∧ ∀ p, H p = none → Q (.ref p) (upd H p (.rng 0 j))) := by
  intro pins s σ H vs us Q I r h
  obtain ⟨j, rfl, q⟩ := h
  obtain ⟨u1, rfl, rj⟩ := vals1 r
  obtain ⟨t, rfl⟩ := rj
  refine call_range_1 ⟨.ref s.heap.objs.size, upd H s.heap.objs.size (.rng 0 j), I.laid (t' := s.toks + 1 + 1) (fun b o e => Heap.get?_push_of_some _ e) (Nat.le_refl _) ?_, rfl, q _ (I.hok.fresh (Nat.le_refl _))⟩
  exact ⟨s.toks, t, s.toks + 1, Heap.get?_push_size _ rfl⟩
/-- len of a range -/
theorem call_lenR : CallR X (.builtin "len") (fun xs H Q => ∃ a lo hi, xs = [.ref a] ∧ H a = some (.rng lo hi) ∧ (hi - lo).toNat < 2 ^ 62 ∧ Q (.int ((hi - lo).toNat : Int)) H) := by
  intro pins s σ H xs us Q I r h
  obtain ⟨a, lo, hi, rfl, ha, hz, q⟩ := h
  rw [Vals.ref1 r]
  obtain ⟨t, u, v, ho⟩ := I.hok a _ ha
  exact call_len_range (n := (hi - lo).toNat) ho (rangeSize_nat lo hi) (by omega) ⟨.int ((hi - lo).toNat : Int), H, I.tok _, ⟨_, rfl⟩, q⟩
/-- sum of a tuple of ints -/
def rSumT (K : PySem.W.Frag) : List V → Hp → VK → Prop := fun vs H Q => ∃ (a : Addr) (ns : List Int), vs = [V.ref a] ∧ SqT K H a (ns.map V.int) ∧ Q (.int ns.sum) H
theorem cr_sumT (hc : X.calm = true) : CallR X (.builtin "sum") (rSumT X.K) := by
  intro pins s σ H vs us Q I r h
  obtain ⟨a, ns, rfl, hs, q⟩ := h
  obtain ⟨its, rv, hl, _⟩ := I.tuple hs
  rw [Vals.ref1 r]
  have hi := rv.ints
  obtain ⟨xs, e⟩ := hi.allInts.items
  have hn : numsOf (intItems xs).toList = ns := by rw [← e]; exact hi.numsOf
  rw [nums_intItems] at hn
  rw [e] at hl
  refine PySem.W.ktm_sumG (I.ok.hd hc) hl fun h' tk t' hk => ?_
  rw [preSum_eq, List.take_of_length_le (by simp), hn]
  exact ⟨.int ns.sum, H, I.kept hk, ⟨_, rfl⟩, q⟩
end
end L2

set_option Elab.async false
set_option maxRecDepth 100000
set_option maxHeartbeats 4000000
namespace L2
open PySem PySem.Spec PyProof.Rows
/-- a list or tuple at p of the items xs -/
def Sq (H : Hp) (p : Addr) (xs : List V) : Prop := H p = some (.lst xs) ∨ H p = some (.tup xs)
section
variable {K : PySem.W.Frag} {H H' : Hp} {p : Addr} {xs : List V}
theorem Sq.k (h : Sq H p xs) : ∃ k, KndOf H (.ref p) k ∧ k.isSeq = true := by
  rcases h with h | h
  · exact ⟨.list, ⟨p, xs, rfl, h⟩, rfl⟩
  · exact ⟨.tuple, ⟨p, xs, rfl, h⟩, rfl⟩
theorem Sq.ext (h : Sq H p xs) (e : Ext H H') : Sq H' p xs := h.imp (e _ _) (e _ _)
theorem Sq.l (h : Sq H p xs) : SqL K H p xs ∨ SqT K H p xs := h.imp SqL.of SqT.of
theorem ext_mut {D : Addr} {o : HO} (e : Ext H H') (h : H D = none) : Ext H (upd H' D o) := fun a u ha => by
  rw [upd_ne (ne_of_none ha h)]
  exact e a u ha
theorem ext_none {D : Addr} (e : Ext H H') (h : H' D = none) : H D = none := by
  cases h1 : H D with
  | none => rfl
  | some o =>
    rw [e D o h1] at h
    cases h
end
section
variable {X : Cx} {tg : Expr}
/-- a list or a tuple is walked -/
def iSq (K : PySem.W.Frag) (tl : TE) : TI := fun σ H R => tl σ H fun x H1 => ∃ a, x = .ref a ∧ (((∃ xs, SqL K H1 a xs) ∧ R (Itl K a) H1) ∨ ((∃ xs, SqT K H1 a xs) ∧ R (Itt K a) H1))
theorem pi_sq {l : Expr} {tl : TE} (hl : PE X l tl) : PI X tg l (iSq X.K tl) := by
  refine ⟨fun pins s σ H R I h => ?_⟩
  refine thn (hl.run pins s σ H _ I h) fun v s1 ⟨x, H1, I1, r1, q1⟩ => ?_
  obtain ⟨a, e, q1⟩ := q1
  subst e
  cases r1
  rcases q1 with ⟨⟨xs, hq⟩, q⟩ | ⟨⟨xs, hq⟩, q⟩
  · obtain ⟨its, rv, p, hz⟩ := I1.list hq
    refine wpAny_pyIter_list p.isList ?_
    refine ⟨s1.heap.objs.size, [s1.heap.objs.size], _, _, H1, rfl, I1.kept (t' := s1.toks) fun b o e => Heap.get?_push_of_some _ e, turn_list a _, ⟨_, Heap.get?_push_size _ rfl, rfl, rfl⟩, fun b hb => ?_, q⟩
    have e : b = s1.heap.objs.size := by simpa using hb
    subst e
    exact I1.fpOk (Nat.le_refl _) (I1.hok.fresh (Nat.le_refl _))
  · obtain ⟨its, rv, p, hz⟩ := I1.tuple hq
    refine wpAny_pyIter_tuple (show s1.heap.IsTuple a its.toArray from p) ?_
    refine ⟨s1.heap.objs.size, [s1.heap.objs.size], _, _, H1, rfl, I1.kept (t' := s1.toks) fun b o e => Heap.get?_push_of_some _ e, turn_tuple a _, ⟨_, Heap.get?_push_size _ rfl, rfl, rfl⟩, fun b hb => ?_, q⟩
    have e : b = s1.heap.objs.size := by simpa using hb
    subst e
    exact I1.fpOk (Nat.le_refl _) (I1.hok.fresh (Nat.le_refl _))
end
section
variable {K : PySem.W.Frag} {σ : St} {H : Hp} {p : Addr} {xs : List V} {te : TE} {tt : TT} {j : Nat} {vs : List Nat} {Q : VK}
theorem take_snoc {α : Type} {l : List α} {i : Nat} {x : α} (h : l[i]? = some x) : l.take (i + 1) = l.take i ++ [x] := by
  rw [List.take_add_one, h]
  rfl
/-- [f(x) for x in xs if b(x)], what is tested and made only adding to the heap: the reading behind the source's own -/
theorem lc_sqR {Qd : Addr → Hp → Prop} {f : V → V} {b : V → Bool} (hx : Sq H p xs) (hz : xs.length < sizeLine) (hw : ∀ x, wipe ((wipe σ vs).set j (some x)) vs = wipe σ vs)
    (ht : ∀ x ∈ xs, ∀ H', Ext H H' → ∀ Q : Bool → Hp → Prop, (∀ H'', Ext H' H'' → Q (b x) H'') → tt ((wipe σ vs).set j (some x)) H' Q)
    (he : ∀ x ∈ xs, b x = true → ∀ H', Ext H H' → ∀ Q : VK, (∀ H'', Ext H' H'' → Q (f x) H'') → te ((wipe σ vs).set j (some x)) H' Q)
    (q : ∀ D H', H D = none → Ext H H' → H' D = some (.lst ((xs.filter b).map f)) → Qd D H') :
    ((∃ xs, SqL K H p xs) ∧ (fun J H1 => ∀ D, H1 D = none → ∃ W : Nat → Nat → Hp → Prop, (∃ m, W 0 m (upd H1 D (.lst []))) ∧ ∀ i m H, W i m H →
      (J.stop i H ∧ Qd D H) ∨ (J.go i H ∧ ∃ Nx : Hp → Prop, (∀ H', Nx H' → ∃ m', m' < m ∧ W (i + 1) m' H') ∧ ∀ x H', J.yld i H x H' → gName j x (wipe σ vs) H' fun σ2 H2 => wipe σ2 vs = wipe σ vs ∧ tt σ2 H2 fun b H3 =>
        if b = true then te σ2 H3 fun y H4 => ∃ acc, H4 D = some (.lst acc) ∧ acc.length < sizeLine ∧ Nx (upd H4 D (.lst (acc ++ [y]))) else Nx H3)) (Itl K p) H) ∨
    ((∃ xs, SqT K H p xs) ∧ (fun J H1 => ∀ D, H1 D = none → ∃ W : Nat → Nat → Hp → Prop, (∃ m, W 0 m (upd H1 D (.lst []))) ∧ ∀ i m H, W i m H →
      (J.stop i H ∧ Qd D H) ∨ (J.go i H ∧ ∃ Nx : Hp → Prop, (∀ H', Nx H' → ∃ m', m' < m ∧ W (i + 1) m' H') ∧ ∀ x H', J.yld i H x H' → gName j x (wipe σ vs) H' fun σ2 H2 => wipe σ2 vs = wipe σ vs ∧ tt σ2 H2 fun b H3 =>
        if b = true then te σ2 H3 fun y H4 => ∃ acc, H4 D = some (.lst acc) ∧ acc.length < sizeLine ∧ Nx (upd H4 D (.lst (acc ++ [y]))) else Nx H3)) (Itt K p) H) := by
  have turn : ∀ (D : Addr), H D = none → ∀ i x H', xs[i]? = some x → (Ext H H' ∧ H' D = some (.lst (((xs.take i).filter b).map f))) → gName j x (wipe σ vs) H' fun σ2 H2 => wipe σ2 vs = wipe σ vs ∧ tt σ2 H2 fun b' H3 =>
      if b' = true then te σ2 H3 fun y H4 => ∃ acc, H4 D = some (.lst acc) ∧ acc.length < sizeLine ∧ (Ext H (upd H4 D (.lst (acc ++ [y]))) ∧ upd H4 D (.lst (acc ++ [y])) D = some (.lst (((xs.take (i + 1)).filter b).map f))) else (Ext H H3 ∧ H3 D = some (.lst (((xs.take (i + 1)).filter b).map f))) := by
    intro D hD i x H' hi pv
    obtain ⟨e, hl⟩ := pv
    have hm : x ∈ xs := List.mem_of_getElem? hi
    refine ⟨hw x, ht x hm H' e _ fun H3 e3 => ?_⟩
    have hl3 : H3 D = some (.lst (((xs.take i).filter b).map f)) := e3 _ _ hl
    cases hb : b x with
    | true =>
      refine iteT (he x hm hb H3 (e.trans e3) _ fun H4 e4 => ⟨_, e4 _ _ hl3, ?_, ext_mut ((e.trans e3).trans e4) hD, ?_⟩)
      · rw [List.length_map]
        refine Nat.lt_of_le_of_lt (Nat.le_trans (List.length_filter_le _ _) ?_) hz
        exact List.length_take_le' _ _
      · rw [upd_same, take_snoc hi, List.filter_append, List.map_append]
        simp [hb]
    | false =>
      refine iteF ⟨e.trans e3, ?_⟩
      rw [hl3, take_snoc hi, List.filter_append, List.map_append]
      simp [hb]
  have fin : ∀ D, H D = none → ∀ H', (Ext H H' ∧ H' D = some (.lst (((xs.take xs.length).filter b).map f))) → Qd D H' := fun D hD H' pv => by
    rw [List.take_length] at pv
    exact q D H' hD pv.1 pv.2
  rcases hx with hx | hx
  · refine .inl ⟨⟨xs, SqL.of hx⟩, fun D hD => lc_list (xs := xs) (fun i H' => Ext H H' ∧ H' D = some (.lst (((xs.take i).filter b).map f))) ⟨Ext.upd hD, upd_same⟩ (fun i H' _ pv => SqL.of (pv.1 _ _ hx)) (fun i x H' hi pv => turn D hD i x H' hi pv) (fun H' pv => fin D hD H' pv)⟩
  · refine .inr ⟨⟨xs, SqT.of hx⟩, fun D hD => lc_tup (xs := xs) (fun i H' => Ext H H' ∧ H' D = some (.lst (((xs.take i).filter b).map f))) ⟨Ext.upd hD, upd_same⟩ (fun i H' _ pv => SqT.of (pv.1 _ _ hx)) (fun i x H' hi pv => turn D hD i x H' hi pv) (fun H' pv => fin D hD H' pv)⟩
end
theorem filter_all {α : Type} (l : List α) : l.filter (fun _ => true) = l := List.filter_eq_self.mpr fun _ _ => rfl
end L2

set_option Elab.async false
set_option maxRecDepth 100000
set_option maxHeartbeats 4000000
/-! enumerate over a list or a tuple -/
namespace PySem
open Sem (wp)
/-- the maker of enumerate, handed one thing whose iterator is told -/
theorem en1_meets {v : Value} {ob : Obj} {HP : Heap → Prop} (BG : Begins v ob HP) :
    Meets (Builtin.«enumerate.__new__» ⟨[.type "enumerate", v], []⟩) (fun _ RR sh => HP sh.heap ∧
      RR (.ok (.ret (.ref (sh.heap.push ob).objs.size)))
        { sh with heap := (sh.heap.push ob).push { cls := .type "enumerate", data := .fields #[.none, .bool false, .ref sh.heap.objs.size, rawInt 0, .none, .none] } }) :=
  .of_wp fun pr ww AA RR sh hh => by
    obtain ⟨hp, gg, dd, tk, os⟩ := sh
    obtain ⟨hh1, hh⟩ := hh
    have sub1 := sub_enumerate
    have begin1 : ∀ {A1 : Around} {E1 Q1 : Value → Shared → Prop}, Q1 (.ref hp.objs.size) ⟨hp.push ob, gg, dd, tk, os⟩ →
        wpAny (model pr ww) A1 (pyIter v) Q1 E1 ⟨hp, gg, dd, tk, os⟩ :=
      fun qq => BG.iter pr ww _ _ ⟨hp, gg, dd, tk, os⟩ _ hh1 qq
    wp_walk using begin1
    refine wpAny_stack_any fun sta => wpAny_pure ?_
    split
    · rename_i cc _ _ _ _ _
      cases (cc == Value.type "enumerate")
      all_goals
        wp_walk using begin1
        exact ⟨_, rfl, hh⟩
    · wp_walk using begin1
      exact ⟨_, rfl, hh⟩
section
variable {pr : Program} {ww : World} {AA : Around} {EE : Value → Shared → Prop} {sh : Shared}
theorem en1_call {v : Value} {ob : Obj} {HP : Heap → Prop} {QQ : Value → Shared → Prop} (BG : Begins v ob HP) (hh : HP sh.heap)
    (kk : ∀ h1, IsEnum h1 (sh.heap.objs.size + 1) sh.heap.objs.size 0 .none → h1.get? sh.heap.objs.size = some ob →
      (∀ x y, sh.heap.get? x = some y → h1.get? x = some y) → QQ (.ref (sh.heap.objs.size + 1)) { sh with heap := h1 }) :
    wpAny (model pr ww) AA (call (.type "enumerate") [v]) QQ EE sh := by
  refine callType_new F.called_enumerate (by decide) (F.typeCall_enumerate_1 _) (F.newCall_enumerate_1 _) (fun oo => F.args_object_init_2 oo _) F.entry_enumerate_new (en1_meets BG) ⟨hh, ?_⟩
  have sz : (sh.heap.push ob).objs.size = sh.heap.objs.size + 1 := Heap.size_push ..
  show _ ∧ _
  rw [sz]
  have en : IsEnum ((sh.heap.push ob).push { cls := .type "enumerate", data := .fields #[.none, .bool false, .ref sh.heap.objs.size, rawInt 0, .none, .none] })
      (sh.heap.objs.size + 1) sh.heap.objs.size 0 .none := by
    have qq := Heap.get?_push_size (sh.heap.push ob) (o := { cls := .type "enumerate", data := .fields #[.none, .bool false, .ref sh.heap.objs.size, rawInt 0, .none, .none] }) rfl
    rw [sz] at qq
    exact qq
  exact ⟨⟨_, en, rfl⟩, kk _ en (Heap.get?_push_of_some _ (Heap.get?_push_size _ BG.free)) fun x y hx => Heap.get?_push_of_some _ (Heap.get?_push_of_some _ hx)⟩
end
end PySem
namespace L2
open PySem PySem.Spec PyProof.Rows
/-- the tuple at a, each item in a new pair with its place -/
def Itet (K : PySem.W.Frag) (a : Addr) : It :=
  ⟨fun i H => ∃ xs : List V, SqT K H a xs ∧ i < xs.length,
    fun i H v H' => ∃ T x, v = .ref T ∧ H T = none ∧ H' = upd H T (.tup [.int (i : Nat), x]) ∧ ∀ xs, SqT K H a xs → xs[i]? = some x,
    fun i H => ∃ xs : List V, SqT K H a xs ∧ xs.length = i⟩
theorem turn_enT {P : Program} {w : World} {K : PySem.W.Frag} {elts : List Expr} {kk : Nat} {tpos : Pos} (a e it : Addr) (hea : e ≠ a) (hia : a ≠ it) :
    Turn P w K (.Tuple elts kk tpos) (Itet K a) [e, it] e (fun i h => (∃ old, IsEnum h e it ((i : Nat) : Int) old) ∧ h.IsTupleIter it a i ∧ e ≠ it) where
  mem := List.mem_cons_self
  obj := fun i h st b hb => by
    obtain ⟨⟨old, he⟩, ⟨o, ho, _, hd⟩, _⟩ := st
    rcases List.mem_cons.mp hb with z | z
    · subst z
      exact ⟨_, he, fun v q => nomatch q⟩
    · have z' := List.mem_singleton.mp z
      subst z'
      exact ⟨o, ho, fun v q => by rw [hd] at q; cases q⟩
  keep := fun i h h' st k => by
    obtain ⟨⟨old, he⟩, hi, hne⟩ := st
    exact ⟨⟨old, k e List.mem_cons_self _ he⟩, hi.at fun o q => k it (List.mem_cons_of_mem _ (List.mem_singleton.mpr rfl)) o q, hne⟩
  item := by
    intro X hP hw hK hc i pins s σ H E I hf st hg
    subst hP hw hK
    obtain ⟨⟨old, he⟩, hit, hne⟩ := st
    obtain ⟨xs, hq, hx⟩ := hg
    obtain ⟨its, rv, p, hz⟩ := I.tuple hq
    have hl := rv.length
    have hel : e < s.heap.objs.size := Heap.lt_size he
    have hil : it < s.heap.objs.size := by
      obtain ⟨_, q, _⟩ := hit
      exact Heap.lt_size q
    have D := Draws.tuple (prog := X.prog) (w := X.w) (A := X.A.in1) (show X.A.in1.handled = none from I.ok.hd hc) it a hia its.toArray
    refine wpAny_pyNext_enum_itemC D he (i := i) ⟨hit, p⟩ (by simp; omega) hne (by simp [hne, hea]) fun u h' tk hP ho hst' hT hsz hk => ?_
    have hu : its[i]? = some u := by simpa using hP
    obtain ⟨x, hxx⟩ : ∃ x, xs[i]? = some x := ⟨_, List.getElem?_eq_getElem hx⟩
    obtain ⟨u', hu', ru'⟩ := rv.get hxx
    have eu : u' = u := Option.some.inj (hu'.symm.trans hu)
    subst eu
    refine ⟨_, rfl, wpAny_letOwnedTupleGo_enum (s := { s with heap := h', toks := tk + 1 }) ho fun h2 he2 sb => ?_⟩
    have hT2 : h2.get? s.heap.objs.size = some { cls := .type "tuple", data := .seq #[.int i tk, u'] } := (sb.2 _ (Nat.ne_of_gt hel)).trans hT
    have new : ObjOk X.prog X.w (upd H s.heap.objs.size (.tup [.int (i : Nat), x])) h2 s.heap.objs.size (.tup [.int (i : Nat), x]) := by
      refine ⟨?_, [.int i tk, u'], .cons ⟨_, rfl⟩ (.cons ru' .nil), ⟨_, hT2, rfl, _, rfl⟩⟩
      show 2 ≤ sizeLine
      decide
    have I1 : Inv X pins σ (upd H s.heap.objs.size (.tup [.int (i : Nat), x])) { s with heap := h2, toks := tk + 1 } := by
      refine I.turnedNew (ch := [e, it]) (fun b ob hb q => ?_) hf (Nat.le_refl _) new
      have b1 : b ≠ e := fun z => hb (by simp [z])
      have b2 : b ≠ it := fun z => hb (by simp [z])
      exact (sb.2 b b1).trans (hk b ob b1 b2 q)
    refine ⟨.ref s.heap.objs.size, _, I1, rfl, ⟨_, x, rfl, I.hok.fresh (Nat.le_refl _), rfl, fun ys hy => ?_⟩, ⟨⟨u', ?_⟩, hst'.1.at fun o q => (sb.2 it (Ne.symm hne)).trans q, hne⟩, fun b hb => ?_⟩
    · obtain ⟨its2, rv2, p2, _⟩ := I.tuple hy
      rw [I.tuple_inj hy hq]
      exact hxx
    · have e1 : ((i + 1 : Nat) : Int) = (i : Int) + 1 := rfl
      rw [e1]
      exact he2
    · have hb' : b < s.heap.objs.size := by
        rcases List.mem_cons.mp hb with z | z
        · rw [z]
          exact hel
        · rw [List.mem_singleton.mp z]
          exact hil
      rw [upd_ne (Nat.ne_of_lt hb')]
      exact (hf b hb).1
  done := by
    intro X hP hw hK hc i pins s σ H E I hf st hg
    subst hP hw hK
    obtain ⟨⟨old, he⟩, hit, hne⟩ := st
    obtain ⟨xs, hq, hx⟩ := hg
    obtain ⟨its, rv, p, hz⟩ := I.tuple hq
    have hl := rv.length
    obtain ⟨f0, f1, f2, f3, f4, f5⟩ := hf it (List.mem_cons_of_mem _ (List.mem_singleton.mpr rfl))
    have D := Draws.tuple (prog := X.prog) (w := X.w) (A := X.A.in1) (show X.A.in1.handled = none from I.ok.hd hc) it a hia its.toArray
    have ei : i = its.toArray.size := by simp; omega
    refine wpAny_pyNext_enum_endD D he (by rw [← ei]; exact ⟨hit, p⟩) fun h' eb => ⟨rfl, ?_⟩
    exact I.turned (t' := s.toks) (fun b o hb q => eb b o hb q) f0 f1 f3 f4 f5
  self := fun A i s Q E st h => by
    obtain ⟨⟨_, he⟩, _⟩ := st
    exact wpAny_pyIter_enum he h
/-- a list or a tuple is walked with the places -/
def iEnSq (K : PySem.W.Frag) (ta : TA) : TI := fun σ H R => ta σ H fun vs H1 => ∃ a, vs = [.ref a] ∧ (((∃ xs, SqL K H1 a xs) ∧ R (Ite K a) H1) ∨ ((∃ xs, SqT K H1 a xs) ∧ R (Itet K a) H1))
theorem pi_enSq {X : Cx} {e : Expr} {ta : TA} {p pos tpos : Pos} {elts : List Expr} {kk : Nat} (hg : Gl X "enumerate") (hm : X.mg "enumerate" = none) (ha : PA X [e] ta) (hs : starEach [e] X.env = [(false, eval e X.env)] := by rfl) :
    PI X (.Tuple elts kk tpos) (.Call (.Name "enumerate" p) [e] [] pos) (iEnSq X.K ta) := by
  refine ⟨fun pins s σ H R I h => ?_⟩
  refine Call_ (ld_blt I hg hm boot_enumerate (PyProof.Rows.callWith_type1 (thn (ha.run pos pins s σ H _ I h) fun us s1 ⟨vs, H1, I1, r1, q1⟩ => ?_) hs rfl))
  obtain ⟨a, ex, q1⟩ := q1
  subst ex
  obtain rfl := Vals.ref1 r1
  have two : ∀ b, b ∈ [s1.heap.objs.size + 1, s1.heap.objs.size] → s1.heap.objs.size ≤ b := fun b hb => by
    rcases List.mem_cons.mp hb with z | z
    · rw [z]
      exact Nat.le_add_right _ _
    · rw [List.mem_singleton.mp z]
      exact Nat.le_refl _
  rcases q1 with ⟨⟨xs, hq⟩, q⟩ | ⟨⟨xs, hq⟩, q⟩
  · obtain ⟨its, rv, p', hz⟩ := I1.list hq
    refine en1_call (begins_list a its.toArray) p'.isList fun h' he hit hk => wpAny_pyIter_enum he ?_
    have I2 : Inv X pins σ H1 { s1 with heap := h' } := I1.kept (t' := s1.toks) hk
    refine ⟨s1.heap.objs.size + 1, [s1.heap.objs.size + 1, s1.heap.objs.size], _, _, H1, rfl, I2, turn_enum a (s1.heap.objs.size + 1) s1.heap.objs.size, ⟨⟨.none, he⟩, ⟨_, hit, rfl, rfl⟩, Nat.succ_ne_self _⟩, fun b hb => ?_, q⟩
    exact I1.fpOk (two b hb) (I1.hok.fresh (two b hb))
  · obtain ⟨its, rv, p', hz⟩ := I1.tuple hq
    have hlt : a < s1.heap.objs.size := by
      obtain ⟨o, ho, _⟩ := (show s1.heap.IsTuple a its.toArray from p')
      exact Heap.lt_size ho
    refine en1_call (begins_tuple a its.toArray) p' fun h' he hit hk => wpAny_pyIter_enum he ?_
    have I2 : Inv X pins σ H1 { s1 with heap := h' } := I1.kept (t' := s1.toks) hk
    refine ⟨s1.heap.objs.size + 1, [s1.heap.objs.size + 1, s1.heap.objs.size], _, _, H1, rfl, I2, turn_enT a (s1.heap.objs.size + 1) s1.heap.objs.size (Nat.ne_of_gt (Nat.lt_succ_of_lt hlt)) (Nat.ne_of_lt hlt), ⟨⟨.none, he⟩, ⟨_, hit, rfl, rfl⟩, Nat.succ_ne_self _⟩, fun b hb => ?_, q⟩
    exact I1.fpOk (two b hb) (I1.hok.fresh (two b hb))
section
variable {K : PySem.W.Frag} {a : Addr} {xs : List V}
theorem walk_enT : Walk (Itet K a) xs.length (fun H => SqT K H a xs) (YPair (fun i => some (.int (i : Nat))) (fun i => xs[i]?)) := by
  refine ⟨fun i _ hi q => ⟨xs, q, hi⟩, fun _ q => ⟨xs, q, rfl⟩, fun i H v H' _ q y => ?_⟩
  obtain ⟨T, x, e1, e2, e3, e4⟩ := y
  exact ⟨T, .int (i : Nat), x, e1, e2, e3, rfl, e4 xs q⟩
/-- the turns of an end: what goes on is N -/
def turnsOf (g : TG) (tb : TS) (D : Ends) (σ : St) (J : It) (H : Hp) : Prop := ∃ W : Nat → Nat → St → Hp → Prop, (∃ m, W 0 m σ H) ∧ ∀ i m σ H, W i m σ H →
  (J.stop i H ∧ D.nx σ H) ∨ (J.go i H ∧ ∃ N : St → Hp → Prop, (∀ σ' H', N σ' H' → ∃ m', m' < m ∧ W (i + 1) m' σ' H') ∧ ∀ x H', J.yld i H x H' → g x σ H' fun σ2 H2 => tb { D with nx := N, ct := N, bk := D.nx } σ2 H2)
theorem for_enSq {g : TG} {tb : TS} {D : Ends} {σ : St} {H : Hp} (hx : SqL K H a xs ∨ SqT K H a xs) (Pv : Nat → St → Hp → Prop) (h0 : Pv 0 σ H) (hE : ∀ i σ' H', Pv i σ' H' → Ext H H')
    (hs : ∀ i x σ' H' T, xs[i]? = some x → Pv i σ' H' → H' T = none → g (.ref T) σ' (upd H' T (.tup [.int (i : Nat), x])) fun σ2 H2 => tb { D with nx := Pv (i + 1), ct := Pv (i + 1), bk := D.nx } σ2 H2) (hd : ∀ σ' H', Pv xs.length σ' H' → D.nx σ' H') :
    ((∃ xs, SqL K H a xs) ∧ turnsOf g tb D σ (Ite K a) H) ∨ ((∃ xs, SqT K H a xs) ∧ turnsOf g tb D σ (Itet K a) H) := by
  have step : ∀ i x σ' H' H'', i < xs.length → Pv i σ' H' → YPair (fun i => some (V.int (i : Nat))) (fun i => xs[i]?) i H' x H'' → g x σ' H'' fun σ2 H2 => tb { D with nx := Pv (i + 1), ct := Pv (i + 1), bk := D.nx } σ2 H2 := by
    rintro i v σ' H' H'' hi pv ⟨T, x, y, rfl, hT, rfl, hx', hy⟩
    cases hx'
    exact hs i y σ' H' T hy pv hT
  rcases hx with hx | hx
  · exact .inl ⟨⟨xs, hx⟩, for_it (walk_enum (xs := xs)) Pv h0 (fun i σ' H' _ pv => hx.ext (hE i σ' H' pv)) step hd⟩
  · exact .inr ⟨⟨xs, hx⟩, for_it (walk_enT (xs := xs)) Pv h0 (fun i σ' H' _ pv => hx.ext (hE i σ' H' pv)) step hd⟩
end
end L2

set_option Elab.async false
set_option maxRecDepth 100000
set_option maxHeartbeats 4000000
/-! values told by the data that they hold -/
namespace L2
open PySem PySem.Spec PyProof.Rows
/-- the type's name -/
def tnD : PyData → String
  | .none => "NoneType" | .bool _ => "bool" | .int _ => "int" | .str _ => "str" | .list _ => "list" | .tuple _ => "tuple" | .dict _ => "dict"
def isIntD : PyData → Bool | .int _ => true | .bool _ => true | _ => false
def isBoolD : PyData → Bool | .bool _ => true | _ => false
def isTupD : PyData → Bool | .tuple _ => true | _ => false
def isListD : PyData → Bool | .list _ => true | _ => false
def isStrD : PyData → Bool | .str _ => true | _ => false
def isSeqD : PyData → Bool | .list _ => true | .tuple _ => true | _ => false
def isNoneD : PyData → Bool | .none => true | _ => false
/-- the int that it is, no truth -/
def betD (d : PyData) (a b : Int) : Bool := match d with
  | .int n => decide (a ≤ n) && decide (n ≤ b)
  | _ => false
def lenD : PyData → Nat | .list ds => ds.length | .tuple ds => ds.length | _ => 0
section
variable {K : PySem.W.Frag} {H H' : Hp} {v : V} {d : PyData}
theorem dp_ty (h : Dp K H v d) : TyX K H v (.type (tnD d)) := by
  cases h with
  | non => exact .base .non
  | bl b => exact .base (.bl b)
  | int i => exact .base (.int i)
  | str s => exact .base (.str s)
  | lst hs _ =>
    rcases hs with (h | ⟨o, h⟩) | ⟨o, its, n, e, c, _⟩
    · exact .base (.lst h)
    · exact .base (.frz h)
    · exact .kList e c
  | tup hs _ =>
    rcases hs with (h | ⟨o, h⟩) | ⟨o, its, n, e, c, _⟩
    · exact .base (.tup h)
    · exact .fTuple h
    · exact .kTuple e c
theorem kd_int : PySem.W.kitOne K (.type (tnD d)) (.type "int") = some (isIntD d) := by cases d <;> exact kit_ty (by dsimp only [tnD, isIntD]; decide +kernel)
theorem kd_bool : PySem.W.kitOne K (.type (tnD d)) (.type "bool") = some (isBoolD d) := by cases d <;> exact kit_ty (by dsimp only [tnD, isBoolD]; decide +kernel)
theorem kd_tup : PySem.W.kitOne K (.type (tnD d)) (.type "tuple") = some (isTupD d) := by cases d <;> exact kit_ty (by dsimp only [tnD, isTupD]; decide +kernel)
theorem kd_list : PySem.W.kitOne K (.type (tnD d)) (.type "list") = some (isListD d) := by cases d <;> exact kit_ty (by dsimp only [tnD, isListD]; decide +kernel)
theorem kd_seq : PySem.W.kitAny K (.type (tnD d)) [.type "list", .type "tuple"] = some (isSeqD d) := by
  unfold PySem.W.kitAny
  rw [kd_list]
  unfold PySem.W.kitAny
  rw [kd_tup]
  cases d <;> rfl
theorem kd_find : (fastFind? (tnD d)).isSome = true := by cases d <;> (dsimp only [tnD]; decide +kernel)
mutual
theorem dp_ext (e : Ext H H') : ∀ (d : PyData) (v : V), Dp K H v d → Dp K H' v d
  | .none, _, h => by cases h; exact .non
  | .bool _, _, h => by cases h; exact .bl _
  | .int _, _, h => by cases h; exact .int _
  | .str _, _, h => by cases h; exact .str _
  | .list ds, _, h => by
    cases h with
    | lst hs ha => exact .lst (hs.ext e) (dps_ext e ds _ ha)
  | .tuple ds, _, h => by
    cases h with
    | tup hs ha => exact .tup (hs.ext e) (dps_ext e ds _ ha)
  | .dict _, _, h => by cases h
theorem dps_ext (e : Ext H H') : ∀ (ds : List PyData) (vs : List V), DpAll K H vs ds → DpAll K H' vs ds
  | [], _, h => by cases h; exact .nil
  | d :: ds, _, h => by
    cases h with
    | cons h1 h2 => exact .cons (dp_ext e d _ h1) (dps_ext e ds _ h2)
end
theorem dps_len : ∀ {vs : List V} {ds : List PyData}, DpAll K H vs ds → vs.length = ds.length
  | [], _, h => by cases h; rfl
  | v :: vs, _, h => by
    cases h with
    | cons _ h2 => exact congrArg Nat.succ (dps_len h2)
theorem dps_get : ∀ {vs : List V} {ds : List PyData} {i : Nat} {v : V}, DpAll K H vs ds → vs[i]? = some v → ∃ d, ds[i]? = some d ∧ Dp K H v d
  | [], _, _, _, _, e => by cases e
  | v :: vs, _, i, _, h, e => by
    cases h with
    | @cons _ _ d ds h1 h2 =>
      cases i with
      | zero => cases e; exact ⟨d, rfl, h1⟩
      | succ i => exact dps_get (i := i) h2 e
theorem bet_int {n a b : Int} : betD (.int n) a b = (decide (a ≤ n) && decide (n ≤ b)) := rfl
theorem bet_not {a b : Int} (h : (isIntD d && !isBoolD d) = false) : betD d a b = false := by cases d <;> first | rfl | cases h
theorem bet_yes {a b : Int} (h : betD d a b = true) : ∃ n, d = .int n ∧ a ≤ n ∧ n ≤ b := by
  cases d <;> first | (rw [bet_int, Bool.and_eq_true, decide_eq_true_eq, decide_eq_true_eq] at h; exact ⟨_, rfl, h.1, h.2⟩) | cases h
theorem int_yes (h : (isIntD d && !isBoolD d) = true) : ∃ n, d = .int n := by cases d <;> first | exact ⟨_, rfl⟩ | cases h
theorem dp_int {n : Int} (h : Dp K H v (.int n)) : v = .int n := by cases h; rfl
theorem dp_seq (h : Dp K H v d) (hs : isSeqD d = true) : ∃ (a : Addr) (xs : List V) (ds : List PyData), v = .ref a ∧ (SqL K H a xs ∨ SqT K H a xs) ∧ DpAll K H xs ds ∧ (d = .list ds ∨ d = .tuple ds) := by
  cases h with
  | lst h ha => exact ⟨_, _, _, rfl, .inl h, ha, .inl rfl⟩
  | tup h ha => exact ⟨_, _, _, rfl, .inr h, ha, .inr rfl⟩
  | _ => cases hs
theorem dp_tup (h : Dp K H v d) (hs : isTupD d = true) : ∃ (a : Addr) (xs : List V) (ds : List PyData), v = .ref a ∧ SqT K H a xs ∧ DpAll K H xs ds ∧ d = .tuple ds := by
  cases h with
  | tup h ha => exact ⟨_, _, _, rfl, h, ha, rfl⟩
  | _ => cases hs
end
/-! ### own methods, called -/
section
variable {X : Cx} {CX : CXT} {m : Str} {k : Nat} {ps : List Str} {sp : Sp} {e o : Expr} {es : List Expr} {t : TA} {ta : TE} {pos apos : Pos} {C : Addr}
theorem pe_ownM0 {pl : Sem Bool} (O : OwnM X.prog X.w X.K X.mg X.base CX C m k ps sp) (he : PE X o ta) (c : Cls X.K C) (hr : Room k X.A) (hx : Passes CX X E0)
    (ht : eval (.Call (.Attribute o m apos) [] [] pos) X.env = (do
      let ov ← eval o X.env
      standAt apos.atName
      let (f, first) ← holding [ov] (getMethod ov m pl)
      callWith pos f first (backTo pos (starEach [] X.env)) (backToKw pos (keywordEach [] X.env))) := by rfl) :
    PE X (.Call (.Attribute o m apos) [] [] pos) (tMeth C m sp [] E0 ta tNil) := by
  obtain ⟨f, fd, F, M, _, hb⟩ := O.ex
  exact pe_meth0 he c M F hr hb .nil hx ht
theorem pe_ownM {pl : Sem Bool} (O : OwnM X.prog X.w X.K X.mg X.base CX C m k ps sp) (he : PE X o ta) (c : Cls X.K C) (hr : Room k X.A) (hx : Passes CX X E0) (ha : PA X (e :: es) t)
    (hst : starEach (e :: es) X.env = (false, eval e X.env) :: starEach es X.env := by rfl) (hpl : (backTo pos (starEach es X.env)).any (·.1) = false := by rfl)
    (ht : eval (.Call (.Attribute o m apos) (e :: es) [] pos) X.env = (do
      let ov ← eval o X.env
      standAt apos.atName
      let (f, first) ← holding [ov] (getMethod ov m pl)
      callWith pos f first (backTo pos (starEach (e :: es) X.env)) (backToKw pos (keywordEach [] X.env))) := by rfl) :
    PE X (.Call (.Attribute o m apos) (e :: es) [] pos) (tMeth C m sp [] E0 ta t) := by
  obtain ⟨f, fd, F, M, _, hb⟩ := O.ex
  exact pe_meth he c M F hr hb .nil hx ha hst hpl ht
end
end L2

set_option Elab.async false
set_option maxRecDepth 100000
set_option maxHeartbeats 4000000
/-! defs that are handed the error that the suite holds; classes made with defaults -/
namespace L2
open PySem PySem.Spec PyProof.Rows
section
variable {X : Cx}
/-- isinstance(e, c), e the held error, anywhere that it is pinned -/
theorem call_isEP {a D : Addr} {cls : Value} {d : Option Addr} {oe : Obj} (hpn : (a, oe) ∈ X.pn) (C : ExcC X.K D) (hz : Zc cls d oe) (hf : ∃ vs, oe.data = .fields vs) : CallR X (.builtin "isinstance") (rIsED X.K D a cls d) := by
  intro pins s σ H xs us Q I r h
  obtain ⟨ec0, hdd, c, cv, b, rfl, hcv, e, q⟩ := h
  subst ec0
  cases r with
  | cons rx rr =>
    cases rr with
    | cons rt rr =>
      cases rr
      cases rx
      have ec := hcv _ rt
      subst ec
      obtain ⟨hget, _⟩ := I.pin (a, oe) (List.mem_append.mpr (.inl hpn))
      obtain ⟨vs, hv⟩ := hf
      have J : ∃ od, PySem.W.InstAt s.heap a oe D od := by
        obtain ⟨oc, od, oda, osl⟩ := oe
        obtain ⟨h1, h2⟩ := hz
        dsimp only at h1 h2 hv
        subst h1 h2 hv
        cases od with
        | none => exact ⟨none, hget, rfl, rfl, trivial⟩
        | some dd =>
          obtain ⟨fs, hfs⟩ := hdd dd rfl
          obtain ⟨mA, hns, _⟩ := (show ObjOk X.prog X.w H s.heap dd (.xd fs) from I.hok dd _ hfs)
          obtain ⟨od, ho, _⟩ := lookIn_ns hns
          exact ⟨some od, hget, rfl, rfl, ho⟩
      exact PySem.W.kia_one (PySem.W.kitx_excD C) I.kIn J e (fun z => nomatch z) fun tk => ⟨.bl b, H, I.kept (t' := tk) fun _ _ z => z, rfl, q⟩
/-- e.f of it -/
theorem pe_xfP {a C : Addr} {oe : Obj} {cls : Value} {d : Option Addr} {e : Expr} {te : TE} {pos : Pos} {n : Str} (hpn : (a, oe) ∈ X.pn) (T : XfC X.K C) (hno : PySem.W.findIn X.K (.ref C) n = some none)
    (hz : Zc cls d oe) (hf : ∃ vs, oe.data = .fields vs) (he : PE X e te) (hb : attributeBase e n X.env (eval e X.env) = eval e X.env := by rfl) :
    PE X (.Attribute e n pos) (tXf a cls d C n te) := by
  refine ⟨fun pins s σ H Q I h => attr_of hb (thn (he.run pins s σ H _ I h) fun u s1 hh => ?_)⟩
  obtain ⟨x, H1, I1, rx, ex, ec, dd, fs, v, ed, ea, l, q⟩ := hh
  subst ex ec ed
  obtain rfl : u = Value.ref a := rx
  obtain ⟨hget, _⟩ := I1.pin (a, oe) (List.mem_append.mpr (.inl hpn))
  obtain ⟨vs, hv⟩ := hf
  obtain ⟨mA, hns, hr⟩ := (show ObjOk X.prog X.w H1 s1.heap dd (.xd fs) from I1.hok dd _ ea)
  obtain ⟨od, ho, hl⟩ := lookIn_ns hns
  obtain ⟨uu, hu, ru⟩ := RelO.some_of (v := v) (o := mA n) (by rw [← l]; exact hr n)
  have ncls : PySem.W.notCls oe = true := by
    unfold PySem.W.notCls
    rw [hv] <;> rfl
  have J : PySem.W.InstAt s1.heap a oe C (some od) := ⟨hget, hz.1, ncls, by rw [hz.2]; exact ho⟩
  have fo := PySem.W.findObj_own T.hdC hno (od := od) rfl (by rw [hl, hu])
  exact HandSPX.exc_get I1.kIn J T.ga T.gg T.exC fo (handed_of ru) ⟨v, H1, I1.tok _, ru, q⟩
end
end L2
namespace L2H
open PySem PySem.Spec PyProof.Rows L2 HotX
/-- such a def: its promise speaks of the held error, too -/
structure FnE (P : Program) (w : World) (K : PySem.W.Frag) (mg : Str → Option Value) (base : Heap) (CX : CXT) (k : Nat) (f : Addr) (fd : FuncData) (ps : List Str) (sp : Addr × Obj → Sp) : Prop where
  len : ∀ p vs H Q E, sp p vs H Q E → vs.length = ps.length
  run : ∀ (p : Addr × Obj) (AA : Around) (outer : List Env) (sh : Shared) (H : Hp) (args : Args) (us : List Value) (vs : List V) (Q : VK) (E : XK), RoomH k AA → PinOk outer H sh p → Env0 P w K mg base AA outer sh H →
    BindsTo sh fd args (ps.zip us) → Vals vs us → sp p vs H Q E → codeAny (model P w) AA (.call (.ref f) args) (CR CX outer P w H sh Q E) sh
section
variable {CX : CXT} {P : Program} {w : World} {K : PySem.W.Frag} {mg : Str → Option Value} {base : Heap} {k : Nat} {f : Addr} {fd : FuncData} {x qual : Str} {st : Stmt} {N ps : List Str} {sp : Addr × Obj → Sp}
theorem fnE_of (F : Fun K x qual st f fd) (S : FnScope N ps (defScope st)) (len : ∀ p vs H Q E, sp p vs H Q E → vs.length = ps.length)
    (hbody : ∀ (p : Addr × Obj) (cdv : Value) (AA : Around) (outer : List Env) (sh : Shared) (H : Hp) (vs : List V) (Q : VK) (E : XK), RoomH k (AA.deeper (envOfC qual (defScope st) sh.heap.objs.size f cdv)) → sp p vs H Q E →
      ∃ t, PSs (cxH CX P w K mg base N qual (defScope st) f cdv AA outer sh H E p) (defBody st) t ∧ t { nx := fun _ H' => Q .non H', rt := Q } (L2.start N vs) H) : FnE P w K mg base CX (k + 1) f fd ps sp := by
  obtain ⟨oc, od, kV, doc, pm, an, cdv, ct, osl, rfl, lk, hcd⟩ := F.ex
  refine ⟨len, fun p AA outer sh H args us vs Q E hr hpin e0 hb r hsp => ?_⟩
  have hl := len _ _ _ _ _ hsp
  have KX : K.In sh.heap := e0.mod.kin.keeps fun b o e => (e0.bs b o e).1
  have lim : sh.heap.NoLimit := e0.mod.nolimit.keeps fun b o e => (e0.bs b o e).1
  have binds : ∀ y ∈ ps.zip us, (defScope st).names.lookup y.1 = some .local ∨ ((defScope st).names.lookup y.1 = some .cell ∧ ((cellsFrom (sh.heap.objs.size + 1) (defScope st).names []).lookup y.1).isSome = true) := by
    rintro ⟨n, v⟩ hy
    rcases S.par n (List.of_mem_zip hy).1 with q | q
    · exact .inl q
    · exact .inr ⟨q, PySem.W.cellsFrom_some _ _ _ (.inl q)⟩
  refine codeAny_call_function hr.depth (KX _ _ lk) rfl S.co S.gen rfl (PySem.W.codeRec_of KX hcd) (hb _ _ _ _ ?_)
  refine wpAny_newFunctionEnv_cells S.kind binds fun env he s1 xx => ?_
  subst he
  refine ⟨lim.keeps xx.toInCall.keep, codeAny_func ?_⟩
  obtain ⟨t, ht, hq⟩ := hbody p cdv AA outer sh H vs Q E (hr.deeper _) hsp
  have I := inv_startH (CX := CX) (E := E) S hpin e0 hl r xx
  refine wpAny_mono (ht.run [] s1 (L2.start N vs) H _ I hq) (fun fl s' hs => ?_) fun _ _ hs => hs
  cases fl with
  | ret u =>
    obtain ⟨v, σ', H', J, rv, q⟩ := hs
    exact ⟨v, H', J.os, J.bare, J.base, J.hok, rv, q⟩
  | next =>
    obtain ⟨σ', H', J, q⟩ := hs
    exact ⟨V.non, H', J.os, J.bare, J.base, J.hok, rfl, q⟩
  | brk =>
    obtain ⟨_, _, _, q⟩ := hs
    exact q.elim
  | cont =>
    obtain ⟨_, _, _, q⟩ := hs
    exact q.elim
end
section
variable {X : Cx} {CX : CXT} {k : Nat} {f : Addr} {fd : FuncData} {ps : List Str} {sp : Addr × Obj → Sp} {x : Str} {q pos : Pos} {e : Expr} {es : List Expr} {t : TA} {p : Addr × Obj}
/-- f(e, ..) in the suite that holds p -/
theorem pe_callE (F : FnE X.prog X.w X.K X.mg X.base CX k f fd ps sp) (hr : RoomH k X.A) (hp : p ∈ X.pn) (hg : Gl X x) (hm : X.mg x = some (.ref f)) (hk : PySem.W.keepIn X.K (.ref f) = true) (hb : Binds X.K fd ps []) (hx : Passes CX X E0)
    (ha : PA X (e :: es) t) (hdb : (x == ("__debug__" : Str)) = false := by decide) (he : starEach (e :: es) X.env = (false, eval e X.env) :: starEach es X.env := by rfl) (hpl : (backTo pos (starEach es X.env)).any (·.1) = false := by rfl) :
    PE X (.Call (.Name x q) (e :: es) [] pos) (tCall (sp p) [] E0 t) := by
  refine ⟨fun pins s σ H Q I h => wpAny_Call_Name_kw (ld_glob I hg hm ?_ hdb)⟩
  refine PySem.W.callWith_K (h₀ := X.base) I.ok.mod.kin hk (thn (ha.run pos pins s σ H _ I h) fun us s1 ⟨vs, H1, I1, r, hsp⟩ => ⟨I1.kIn, ?_⟩) he hpl
  have hsp : sp p vs H1 Q E0 := by
    have z : sp p (vs ++ []) H1 Q E0 := hsp
    rwa [List.append_nil] at z
  have hl : us.length = ps.length := by
    rw [← r.length]
    exact F.len _ _ _ _ _ hsp
  have bd := hb s1 us I1.kIn (by rw [List.append_nil]; exact hl)
  rw [List.append_nil] at bd
  have P1 := I1.pin p (List.mem_append.mpr (.inl hp))
  have hpin : PinOk X.stack H1 s1 p := ⟨P1.1, P1.2.1, fun hm => (List.mem_cons.mp (I1.stkSub p.1 hm)).elim P1.2.2.1 P1.2.2.2.1, P1.2.2.2.2⟩
  refine wpAny_call (codeAny_mono (F.run p X.A X.stack s1 H1 ⟨us, []⟩ us vs Q E0 hr hpin I1.env0 bd r hsp) fun rr s' hq => ?_)
  match rr, hq with
  | .error ee, hq => exact hx pins σ H1 s1 ee s' I1 hq
  | .ok (.ret u), hq => exact I1.after hq
  | .ok .next, hq => exact hq.elim
  | .ok .brk, hq => exact hq.elim
  | .ok .cont, hq => exact hq.elim
end
end L2H
namespace L2
open PySem PySem.Spec PyProof.Rows
/-- a class of the top whose __init__ has defaults, dvs those that fill up -/
structure OwnCD (P : Program) (w : World) (K : PySem.W.Frag) (mg : Str → Option Value) (base : Heap) (CX : CXT) (x : Str) (C : Addr) (k : Nat) (ps : List Str) (sp : Sp) (dvs : List V) : Prop where
  ex : ∃ (f : Addr) (fd : FuncData) (ds : List Value), FnOk P w K mg base CX k f fd ps sp ∧ Mk K C f ∧ mg x = some (.ref C) ∧ Binds K fd ps ds ∧ Vals dvs ds
section
variable {X : Cx} {CX : CXT} {x : Str} {k : Nat} {ps : List Str} {sp : Sp} {e : Expr} {es : List Expr} {t : TA} {p pos : Pos} {C : Addr} {dvs : List V}
theorem pe_newD (O : OwnCD X.prog X.w X.K X.mg X.base CX x C k ps sp dvs) (hr : Room (k + 1) X.A) (hx : Passes CX X E0) (ha : PA X (e :: es) t) (hg : Gl X x := by rfl) (hdb : (x == ("__debug__" : Str)) = false := by decide)
    (he : starEach (e :: es) X.env = (false, eval e X.env) :: starEach es X.env := by rfl) (hpl : (backTo pos (starEach es X.env)).any (·.1) = false := by rfl) : PE X (.Call (.Name x p) (e :: es) [] pos) (tMake C sp dvs E0 t) := by
  obtain ⟨f, fd, ds, F, M, hm, hb, hv⟩ := O.ex
  exact pe_make M F hr hg hm hb hv hx ha hdb he hpl
end
end L2

set_option Elab.async false
set_option maxRecDepth 100000
set_option maxHeartbeats 4000000
/-! a op b op c op d -/
namespace L2
open PySem PySem.Spec PyProof.Rows
def tCh3 (r r' r2 : R2) (ta tb tc td : TE) : TE := fun σ H Q => ta σ H fun x H1 => tb σ H1 fun y H2 => r x y H2 fun z H3 => ∃ k, z = .bl k ∧
  (if k = true then tc σ H3 fun u H4 => r' y u H4 fun z' H5 => ∃ k', z' = .bl k' ∧ (if k' = true then td σ H5 fun v H6 => r2 u v H6 Q else Q (.bl false) H5) else Q (.bl false) H3)
section
variable {X : Cx} {a b c d : Expr} {pos : Pos} {ta tb tc td : TE} {op op' op2 : CmpOp} {r r' r2 : R2}
theorem pe_chain3 (ho : OpR X (compareOp op) r) (ho' : OpR X (compareOp op') r') (ho2 : OpR X (compareOp op2) r2) (ha : PE X a ta) (hb : PE X b tb) (hc : PE X c tc) (hd : PE X d td)
    (hm : lastMarks [op, op', op2] [b, c, d] = false := by with_unfolding_all rfl) : PE X (.Compare a [op, op', op2] [b, c, d] pos) (tCh3 r r' r2 ta tb tc td) := by
  refine ⟨fun pins s σ H Q I h => ?_⟩
  refine Compare_chain (thn (ha.run pins s σ H _ I h) fun v s1 ⟨x, H1, I1, r1, q1⟩ => chain_link (thn (hb.run pins s1 σ H1 _ I1 q1) fun u s2 ⟨y, H2, I2, r2', q2⟩ =>
    thn (ho pins s2 σ H2 x y v u _ I2 r1 r2' q2) fun e s3 ⟨z, H3, I3, r3, k, ez, q3⟩ => ?_)) hm
  subst ez
  cases r3
  refine wpAny_truthy_bool ?_
  cases k with
  | false => exact ite_ff ⟨.bl false, H3, I3, rfl, q3⟩
  | true =>
    refine ite_tt (chain_link (thn (hc.run pins s3 σ H3 _ I3 q3) fun u2 s4 ⟨z4, H4, I4, r4, q4⟩ => thn (ho' pins s4 σ H4 y z4 u u2 _ I4 r2' r4 q4) fun e5 s5 ⟨z5, H5, I5, r5, k5, ez5, q5⟩ => ?_))
    subst ez5
    cases r5
    refine wpAny_truthy_bool ?_
    cases k5 with
    | false => exact ite_ff ⟨.bl false, H5, I5, rfl, q5⟩
    | true => exact ite_tt (chain_last (thn (hd.run pins s5 σ H5 _ I5 q5) fun u6 s6 ⟨z6, H6, I6, r6, q6⟩ => ho2 pins s6 σ H6 z4 z6 u2 u6 Q I6 r4 r6 q6))
theorem pt_chain3 (ho : OpR X (compareOp op) r) (ho' : OpR X (compareOp op') r') (ho2 : OpR X (compareOp op2) r2) (ha : PE X a ta) (hb : PE X b tb) (hc : PE X c tc) (hd : PE X d td)
    (hm : lastMarks [op, op', op2] [b, c, d] = false := by with_unfolding_all rfl) : PT X (.Compare a [op, op', op2] [b, c, d] pos) (tTest (tCh3 r r' r2 ta tb tc td)) := by
  refine ⟨fun pins s σ H Q I h => ?_⟩
  refine isTrue_chain (thn (ha.run pins s σ H _ I h) fun v s1 ⟨x, H1, I1, r1, q1⟩ => test_link (thn (hb.run pins s1 σ H1 _ I1 q1) fun u s2 ⟨y, H2, I2, r2', q2⟩ =>
    thn (ho pins s2 σ H2 x y v u _ I2 r1 r2' q2) fun e s3 ⟨z, H3, I3, r3, k, ez, q3⟩ => ?_)) hm
  subst ez
  cases r3
  refine wpAny_truthy_bool ?_
  cases k with
  | false =>
    obtain ⟨k', e', q'⟩ := q3
    cases e'
    exact ite_ff ⟨H3, I3, q'⟩
  | true =>
    refine ite_tt (test_link (thn (hc.run pins s3 σ H3 _ I3 q3) fun u2 s4 ⟨z4, H4, I4, r4, q4⟩ => thn (ho' pins s4 σ H4 y z4 u u2 _ I4 r2' r4 q4) fun e5 s5 ⟨z5, H5, I5, r5, k5, ez5, q5⟩ => ?_))
    subst ez5
    cases r5
    refine wpAny_truthy_bool ?_
    cases k5 with
    | false =>
      obtain ⟨k', e', q'⟩ := q5
      cases e'
      exact ite_ff ⟨H5, I5, q'⟩
    | true =>
      refine ite_tt (test_last (thn (hd.run pins s5 σ H5 _ I5 q5) fun u6 s6 ⟨z6, H6, I6, r6, q6⟩ => thn (ho2 pins s6 σ H6 z4 z6 u2 u6 _ I6 r4 r6 q6) fun e7 s7 ⟨z7, H7, I7, r7, k7, ez7, q7⟩ => ?_))
      subst ez7
      cases r7
      exact wpAny_truthy_bool ⟨H7, I7, q7⟩
end
end L2
namespace L2
open PySem PySem.Spec PyProof.Rows
def numV : V → Bool | .int _ => true | _ => false
section
variable {K : PySem.W.Frag} {σ : St} {H : Hp} {p : Addr} {xs : List V} {te : TE} {tt : TT} {j : Nat} {vs : List Nat} {Q : VK} {v : V} {d : PyData}
theorem num_dp (h : Dp K H v d) : (isIntD d && !isBoolD d) = numV v := by cases h <;> rfl
theorem non_dp (h : Dp K H v d) : decide (v = .non) = isNoneD d := by cases h <;> simp [isNoneD]
/-- [f(x) for x in xs if b(x)] over a list or a tuple wherever it stands, what is tested and made only adding to the heap -/
theorem lc_sqG {Qd : Addr → Hp → Prop} {f : V → V} {b : V → Bool} (hx : SqL K H p xs ∨ SqT K H p xs) (hz : xs.length < sizeLine) (hw : ∀ x, wipe ((wipe σ vs).set j (some x)) vs = wipe σ vs)
    (ht : ∀ x ∈ xs, ∀ H', Ext H H' → ∀ Q : Bool → Hp → Prop, (∀ H'', Ext H' H'' → Q (b x) H'') → tt ((wipe σ vs).set j (some x)) H' Q)
    (he : ∀ x ∈ xs, b x = true → ∀ H', Ext H H' → ∀ Q : VK, (∀ H'', Ext H' H'' → Q (f x) H'') → te ((wipe σ vs).set j (some x)) H' Q)
    (q : ∀ D H', H D = none → Ext H H' → H' D = some (.lst ((xs.filter b).map f)) → Qd D H') :
    ((∃ xs, SqL K H p xs) ∧ (fun J H1 => ∀ D, H1 D = none → ∃ W : Nat → Nat → Hp → Prop, (∃ m, W 0 m (upd H1 D (.lst []))) ∧ ∀ i m H, W i m H →
      (J.stop i H ∧ Qd D H) ∨ (J.go i H ∧ ∃ Nx : Hp → Prop, (∀ H', Nx H' → ∃ m', m' < m ∧ W (i + 1) m' H') ∧ ∀ x H', J.yld i H x H' → gName j x (wipe σ vs) H' fun σ2 H2 => wipe σ2 vs = wipe σ vs ∧ tt σ2 H2 fun b H3 =>
        if b = true then te σ2 H3 fun y H4 => ∃ acc, H4 D = some (.lst acc) ∧ acc.length < sizeLine ∧ Nx (upd H4 D (.lst (acc ++ [y]))) else Nx H3)) (Itl K p) H) ∨
    ((∃ xs, SqT K H p xs) ∧ (fun J H1 => ∀ D, H1 D = none → ∃ W : Nat → Nat → Hp → Prop, (∃ m, W 0 m (upd H1 D (.lst []))) ∧ ∀ i m H, W i m H →
      (J.stop i H ∧ Qd D H) ∨ (J.go i H ∧ ∃ Nx : Hp → Prop, (∀ H', Nx H' → ∃ m', m' < m ∧ W (i + 1) m' H') ∧ ∀ x H', J.yld i H x H' → gName j x (wipe σ vs) H' fun σ2 H2 => wipe σ2 vs = wipe σ vs ∧ tt σ2 H2 fun b H3 =>
        if b = true then te σ2 H3 fun y H4 => ∃ acc, H4 D = some (.lst acc) ∧ acc.length < sizeLine ∧ Nx (upd H4 D (.lst (acc ++ [y]))) else Nx H3)) (Itt K p) H) := by
  have turn : ∀ (D : Addr), H D = none → ∀ i x H', xs[i]? = some x → (Ext H H' ∧ H' D = some (.lst (((xs.take i).filter b).map f))) → gName j x (wipe σ vs) H' fun σ2 H2 => wipe σ2 vs = wipe σ vs ∧ tt σ2 H2 fun b' H3 =>
      if b' = true then te σ2 H3 fun y H4 => ∃ acc, H4 D = some (.lst acc) ∧ acc.length < sizeLine ∧ (Ext H (upd H4 D (.lst (acc ++ [y]))) ∧ upd H4 D (.lst (acc ++ [y])) D = some (.lst (((xs.take (i + 1)).filter b).map f))) else (Ext H H3 ∧ H3 D = some (.lst (((xs.take (i + 1)).filter b).map f))) := by
    intro D hD i x H' hi pv
    obtain ⟨e, hl⟩ := pv
    have hm : x ∈ xs := List.mem_of_getElem? hi
    refine ⟨hw x, ht x hm H' e _ fun H3 e3 => ?_⟩
    have hl3 : H3 D = some (.lst (((xs.take i).filter b).map f)) := e3 _ _ hl
    cases hb : b x with
    | true =>
      refine iteT (he x hm hb H3 (e.trans e3) _ fun H4 e4 => ⟨_, e4 _ _ hl3, ?_, ext_mut ((e.trans e3).trans e4) hD, ?_⟩)
      · rw [List.length_map]
        refine Nat.lt_of_le_of_lt (Nat.le_trans (List.length_filter_le _ _) ?_) hz
        exact List.length_take_le' _ _
      · rw [upd_same, take_snoc hi, List.filter_append, List.map_append]
        simp [hb]
    | false =>
      refine iteF ⟨e.trans e3, ?_⟩
      rw [hl3, take_snoc hi, List.filter_append, List.map_append]
      simp [hb]
  have fin : ∀ D, H D = none → ∀ H', (Ext H H' ∧ H' D = some (.lst (((xs.take xs.length).filter b).map f))) → Qd D H' := fun D hD H' pv => by
    rw [List.take_length] at pv
    exact q D H' hD pv.1 pv.2
  rcases hx with hx | hx
  · refine .inl ⟨⟨xs, hx⟩, fun D hD => lc_list (xs := xs) (fun i H' => Ext H H' ∧ H' D = some (.lst (((xs.take i).filter b).map f))) ⟨Ext.upd hD, upd_same⟩ (fun i H' _ pv => hx.ext pv.1) (fun i x H' hi pv => turn D hD i x H' hi pv) (fun H' pv => fin D hD H' pv)⟩
  · refine .inr ⟨⟨xs, hx⟩, fun D hD => lc_tup (xs := xs) (fun i H' => Ext H H' ∧ H' D = some (.lst (((xs.take i).filter b).map f))) ⟨Ext.upd hD, upd_same⟩ (fun i H' _ pv => hx.ext pv.1) (fun i x H' hi pv => turn D hD i x H' hi pv) (fun H' pv => fin D hD H' pv)⟩
end
end L2

set_option Elab.async false
set_option maxRecDepth 100000
set_option maxHeartbeats 4000000
namespace L2
open PySem PySem.Spec PyProof.Rows
section
variable {X : Cx} {m : Str} {k : Nat} {ps : List Str} {sp : Sp} {e o : Expr} {es : List Expr} {t : TA} {ta : TE} {pos apos : Pos} {C : Addr} {W : WX}
/-- o.m(e, ..) that may raise; W is wished for what it raises -/
theorem pe_ownMS {pl : Sem Bool} (O : OwnM X.prog X.w X.K X.mg X.base (L2.CX X.prog X.w) C m k ps sp) (he : PE X o ta) (c : Cls X.K C) (hr : Room k X.A) (tk : Takes X W) (ha : PA X (e :: es) t)
    (hst : starEach (e :: es) X.env = (false, eval e X.env) :: starEach es X.env := by rfl) (hpl : (backTo pos (starEach es X.env)).any (·.1) = false := by rfl)
    (ht : eval (.Call (.Attribute o m apos) (e :: es) [] pos) X.env = (do
      let ov ← eval o X.env
      standAt apos.atName
      let (f, first) ← holding [ov] (getMethod ov m pl)
      callWith pos f first (backTo pos (starEach (e :: es) X.env)) (backToKw pos (keywordEach [] X.env))) := by rfl) :
    PE X (.Call (.Attribute o m apos) (e :: es) [] pos) (tMethSD C m sp [] (WE W) ta t) := by
  obtain ⟨f, fd, F, M, _, hb⟩ := O.ex
  exact pe_methSD he c M F hr hb .nil (fun σ => passAt tk σ) ha hst hpl ht
theorem PE.imp {ex : Expr} {t1 t2 : TE} (h : PE X ex t1) (i : ∀ σ H Q, t2 σ H Q → t1 σ H Q) : PE X ex t2 := ⟨fun pins s σ H Q I z => h.run pins s σ H Q I (i σ H Q z)⟩
end
end L2

set_option Elab.async false
set_option linter.all false
set_option maxRecDepth 100000
set_option maxHeartbeats 4000000
/-! tuples of own objects, compared by their own ==, whichever the answer -/
namespace GQ
open PySem PySem.SeqAt
open AutoSeq1 (wpAny_loadPart')
open MeetsSeq MeetsSeq2 MeetsSeq3 SeqRoads2
section
variable {prog : Program} {w : World} {A : Around} {R : Result → Shared → Prop}
/-- the places one by one: I goes on, J at the first two that differ -/
theorem tup_eqB (la lb : Addr) (xs ys : Array Value) (n n2 : Nat) (dd dd2 : Option Addr) (sl sl2 : Array (Option Value)) (hsz : xs.size = ys.size) (I : Nat → Shared → Prop) (J : Shared → Prop)
    (turn : ∀ i (h1 : i < xs.size) (h2 : i < ys.size) s, I i s → wpAny (model prog w) A.in1 (eqBool xs[i] ys[i]) (fun r s' => (r = true ∧ I (i + 1) s') ∨ (r = false ∧ J s')) (fun e s' => R (.error e) s') s)
    (finT : ∀ s, I xs.size s → R (.ok (.ret (.bool true))) s) (finF : ∀ s, J s → R (.ok (.ret (.bool false))) s) {s : Shared}
    (hla : s.heap.get? la = some { cls := .type "tuple", dict := dd, data := .seq xs n, slots := sl }) (hlb : s.heap.get? lb = some { cls := .type "tuple", dict := dd2, data := .seq ys n2, slots := sl2 }) (h : I 0 s) :
    wpAny (model prog w) A.in1 (Builtin.«tuple.__eq__» ⟨[.ref la, .ref lb], []⟩) (FinOf prog w A R) (fun e s' => R (.error e) s') s := by
  have f2 := AutoSeq1.sub_tuple_tuple
  have hZ : (xs.toList.zip ys.toList).length = xs.size := by simp [hsz]
  have h0 := h
  obtain ⟨hp, g, d, tk, os⟩ := s
  wp_walk using wpAny_loadPart' hla, wpAny_loadPart' hlb, wpAny_forIn_list _ (fun rest b s' => b.1 = none ∧ ∃ i, rest = (xs.toList.zip ys.toList).drop i ∧ i ≤ xs.size ∧ I i s') _
  case turn =>
    rintro ⟨y, x⟩ rest b s' ⟨hb', i, hz, hi, hI⟩
    have hlt : i < (xs.toList.zip ys.toList).length := by
      rcases Nat.lt_or_ge i (xs.toList.zip ys.toList).length with h' | h'
      · exact h'
      · rw [List.drop_of_length_le h'] at hz
        cases hz
    have h1 : i < xs.size := hZ ▸ hlt
    have h2 : i < ys.size := hsz ▸ h1
    rw [List.drop_eq_getElem_cons hlt] at hz
    injection hz with hyx hrest
    have hy : y = xs[i] := by
      have q := congrArg Prod.fst hyx
      simpa using q
    have hx : x = ys[i] := by
      have q := congrArg Prod.snd hyx
      simpa using q
    subst hy hx
    refine wpAny_bind (wpAny_mono (turn i h1 h2 s' hI) (fun r s2 q2 => ?_) fun _ _ x => x)
    rcases q2 with ⟨hr, q2⟩ | ⟨hr, q2⟩
    · subst hr
      wp_walk
      exact ⟨rfl, i + 1, hrest, h1, q2⟩
    · subst hr
      have hR : R (.ok (.ret (.bool false))) s2 := finF s2 q2
      wp_walk
      exact hR
  case fin =>
    rintro ⟨b1, b2⟩ s' ⟨hb', i, hz, hi, hI⟩
    simp only at hb'
    subst hb'
    have hge : xs.size ≤ i := by
      rcases Nat.lt_or_ge i (xs.toList.zip ys.toList).length with h' | h'
      · rw [List.drop_eq_getElem_cons h'] at hz
        cases hz
      · exact hZ ▸ h'
    have hi' : i = xs.size := by omega
    have hR : R (.ok (.ret (.bool true))) s' := finT s' (hi' ▸ hI)
    wp_walk
    simpa [Builtin.Tuple.tupleCompareSizes, hsz] using hR
  case h =>
    exact ⟨rfl, 0, rfl, Nat.zero_le _, h0⟩
/-- the same for != -/
theorem tup_neB (la lb : Addr) (xs ys : Array Value) (n n2 : Nat) (dd dd2 : Option Addr) (sl sl2 : Array (Option Value)) (hsz : xs.size = ys.size) (I : Nat → Shared → Prop) (J : Shared → Prop)
    (turn : ∀ i (h1 : i < xs.size) (h2 : i < ys.size) s, I i s → wpAny (model prog w) A.in1 (eqBool xs[i] ys[i]) (fun r s' => (r = true ∧ I (i + 1) s') ∨ (r = false ∧ J s')) (fun e s' => R (.error e) s') s)
    (finT : ∀ s, I xs.size s → R (.ok (.ret (.bool false))) s) (finF : ∀ s, J s → R (.ok (.ret (.bool true))) s) {s : Shared}
    (hla : s.heap.get? la = some { cls := .type "tuple", dict := dd, data := .seq xs n, slots := sl }) (hlb : s.heap.get? lb = some { cls := .type "tuple", dict := dd2, data := .seq ys n2, slots := sl2 }) (h : I 0 s) :
    wpAny (model prog w) A.in1 (Builtin.«tuple.__ne__» ⟨[.ref la, .ref lb], []⟩) (FinOf prog w A R) (fun e s' => R (.error e) s') s := by
  have f2 := AutoSeq1.sub_tuple_tuple
  have hZ : (xs.toList.zip ys.toList).length = xs.size := by simp [hsz]
  have h0 := h
  obtain ⟨hp, g, d, tk, os⟩ := s
  wp_walk using wpAny_loadPart' hla, wpAny_loadPart' hlb, wpAny_forIn_list _ (fun rest b s' => b.1 = none ∧ ∃ i, rest = (xs.toList.zip ys.toList).drop i ∧ i ≤ xs.size ∧ I i s') _
  case turn =>
    rintro ⟨y, x⟩ rest b s' ⟨hb', i, hz, hi, hI⟩
    have hlt : i < (xs.toList.zip ys.toList).length := by
      rcases Nat.lt_or_ge i (xs.toList.zip ys.toList).length with h' | h'
      · exact h'
      · rw [List.drop_of_length_le h'] at hz
        cases hz
    have h1 : i < xs.size := hZ ▸ hlt
    have h2 : i < ys.size := hsz ▸ h1
    rw [List.drop_eq_getElem_cons hlt] at hz
    injection hz with hyx hrest
    have hy : y = xs[i] := by
      have q := congrArg Prod.fst hyx
      simpa using q
    have hx : x = ys[i] := by
      have q := congrArg Prod.snd hyx
      simpa using q
    subst hy hx
    refine wpAny_bind (wpAny_mono (turn i h1 h2 s' hI) (fun r s2 q2 => ?_) fun _ _ x => x)
    rcases q2 with ⟨hr, q2⟩ | ⟨hr, q2⟩
    · subst hr
      wp_walk
      exact ⟨rfl, i + 1, hrest, h1, q2⟩
    · subst hr
      have hR : R (.ok (.ret (.bool true))) s2 := finF s2 q2
      wp_walk
      exact hR
  case fin =>
    rintro ⟨b1, b2⟩ s' ⟨hb', i, hz, hi, hI⟩
    simp only at hb'
    subst hb'
    have hge : xs.size ≤ i := by
      rcases Nat.lt_or_ge i (xs.toList.zip ys.toList).length with h' | h'
      · rw [List.drop_eq_getElem_cons h'] at hz
        cases hz
      · exact hZ ▸ h'
    have hi' : i = xs.size := by omega
    have hR : R (.ok (.ret (.bool false))) s' := finT s' (hi' ▸ hI)
    wp_walk
    simpa [Builtin.Tuple.tupleCompareSizes, bne, hsz] using hR
  case h =>
    exact ⟨rfl, 0, rfl, Nat.zero_le _, h0⟩
end
end GQ
namespace GQ
open PySem PySem.SeqAt
section
variable {prog : Program} {w : World} {A : Around} {E : Value → Shared → Prop} {s : Shared}
theorem rc_tupB {la lb : Addr} {xs ys : Array Value} {Q : Value → Shared → Prop} (hsz : xs.size = ys.size) (hu : A.units < cLine) (I : Nat → Shared → Prop) (J : Shared → Prop) (hla : s.heap.IsTuple la xs) (hlb : s.heap.IsTuple lb ys)
    (turn : ∀ i (h1 : i < xs.size) (h2 : i < ys.size) s, I i s → wpAny (model prog w) A.in1 (eqBool xs[i] ys[i]) (fun r s' => (r = true ∧ I (i + 1) s') ∨ (r = false ∧ J s')) E s)
    (finT : ∀ s, I xs.size s → Q (.bool true) s) (finF : ∀ s, J s → Q (.bool false) s) (h : I 0 s) : wpAny (model prog w) A (richCompare .Eq (.ref la) (.ref lb)) Q E s := by
  obtain ⟨⟨cls, dd, data, sl⟩, ho, hc, n, hd⟩ := id hla
  obtain ⟨⟨cls2, dd2, data2, sl2⟩, ho2, hc2, n2, hd2⟩ := id hlb
  simp only at hc hd hc2 hd2
  subst hc hd hc2 hd2
  refine wpAny_richCompare_same_room (op := .Eq) ⟨_, ho, rfl⟩ ⟨_, ho2, rfl⟩ F.slot_tuple_eq (call_here F.slot_tuple_eq ⟨_, ho, rfl⟩ F.entry_tuple_eq (F.args_tuple_eq_2 _ _) ?_) hu
  exact tup_eqB (R := wants (fun v s' => v ≠ .notImplemented ∧ Q v s') E) la lb xs ys n n2 dd dd2 sl sl2 hsz I J turn (fun s' q => ⟨(fun x => nomatch x), finT s' q⟩) (fun s' q => ⟨(fun x => nomatch x), finF s' q⟩) ho ho2 h
theorem rc_tupNB {la lb : Addr} {xs ys : Array Value} {Q : Value → Shared → Prop} (hsz : xs.size = ys.size) (hu : A.units < cLine) (I : Nat → Shared → Prop) (J : Shared → Prop) (hla : s.heap.IsTuple la xs) (hlb : s.heap.IsTuple lb ys)
    (turn : ∀ i (h1 : i < xs.size) (h2 : i < ys.size) s, I i s → wpAny (model prog w) A.in1 (eqBool xs[i] ys[i]) (fun r s' => (r = true ∧ I (i + 1) s') ∨ (r = false ∧ J s')) E s)
    (finT : ∀ s, I xs.size s → Q (.bool false) s) (finF : ∀ s, J s → Q (.bool true) s) (h : I 0 s) : wpAny (model prog w) A (richCompare .NotEq (.ref la) (.ref lb)) Q E s := by
  obtain ⟨⟨cls, dd, data, sl⟩, ho, hc, n, hd⟩ := id hla
  obtain ⟨⟨cls2, dd2, data2, sl2⟩, ho2, hc2, n2, hd2⟩ := id hlb
  simp only at hc hd hc2 hd2
  subst hc hd hc2 hd2
  refine wpAny_richCompare_same_room (op := .NotEq) ⟨_, ho, rfl⟩ ⟨_, ho2, rfl⟩ F.slot_tuple_ne (call_here F.slot_tuple_ne ⟨_, ho, rfl⟩ F.entry_tuple_ne (F.args_tuple_ne_2 _ _) ?_) hu
  exact tup_neB (R := wants (fun v s' => v ≠ .notImplemented ∧ Q v s') E) la lb xs ys n n2 dd dd2 sl sl2 hsz I J turn (fun s' q => ⟨(fun x => nomatch x), finT s' q⟩) (fun s' q => ⟨(fun x => nomatch x), finF s' q⟩) ho ho2 h
end
end GQ
namespace L2
open PySem PySem.Spec PyProof.Rows
/-- how two values compare, by the abstract heap -/
abbrev EqvB := V → V → Hp → Bool → Prop
def MonB (D : EqvB) : Prop := ∀ x y H H' k, Ext H H' → D x y H k → D x y H' k
def EqB (X : Cx) (n : Nat) (D : EqvB) : Prop :=
  ∀ (A : Around) (pins : List (Addr × Obj)) (s : Shared) (σ : St) (H : Hp) (x y : V) (u v : Value) (k : Bool), Sub X n A → Inv X pins σ H s → RelV x u → RelV y v → D x y H k →
    wpAny (model X.prog X.w) A (eqBool u v) (fun r s' => r = k ∧ ∃ H', Inv X pins σ H' s' ∧ Ext H H') X.xe s
def RcB (X : Cx) (n : Nat) (D : EqvB) : Prop :=
  ∀ (A : Around) (pins : List (Addr × Obj)) (s : Shared) (σ : St) (H : Hp) (x y : V) (u v : Value) (k : Bool), Sub X n A → Inv X pins σ H s → RelV x u → RelV y v → D x y H k →
    wpAny (model X.prog X.w) A (richCompare .Eq u v) (fun r s' => r = .bool k ∧ ∃ H', Inv X pins σ H' s' ∧ Ext H H') X.xe s
section
variable {X : Cx} {n : Nat} {D : EqvB}
/-- instances of the class at C -/
def DInsB (C : Addr) (R : Addr → Addr → Hp → Bool → Prop) : EqvB := fun x y H k => ∃ a b dx dy fs gs, x = .ref a ∧ y = .ref b ∧ H a = some (.ins C dx fs) ∧ H b = some (.ins C dy gs) ∧ R a b H k
def spEqB (R : Addr → Addr → Hp → Bool → Prop) : Sp := fun vs H Q _ => ∃ a b k, vs = [.ref a, .ref b] ∧ R a b H k ∧ ∀ H', Ext H H' → Q (.bl k) H'
theorem rcB_ins {CX : CXT} {C f : Addr} {fd : FuncData} {ps : List Str} {R : Addr → Addr → Hp → Bool → Prop} {E : XK} (F : FnOk X.prog X.w X.K X.mg X.base CX n f fd ps (spEqB R))
    (hs : PySem.W.findIn X.K (.ref C) "__eq__" = some (some (.ref f))) (hf : PySem.W.isFn X.K (.ref f) = true) (hb : Binds X.K fd ps []) (hx : Passes CX X E) : RcB X n (DInsB C R) := by
  intro A pins s σ H x y u v k sb I rx ry d
  obtain ⟨a, b, dx, dy, fs, gs, rfl, rfl, ha, hb', hr⟩ := d
  cases rx
  cases ry
  obtain ⟨mA, J, _⟩ := ins_get I.hok ha
  obtain ⟨mB, J', _⟩ := ins_get I.hok hb'
  obtain ⟨od, J, _⟩ := J.look
  obtain ⟨od', J', _⟩ := J'.look
  obtain ⟨m, hF⟩ := I.fr
  refine PySem.W.cmp_K (op := .Eq) (tb := .ref C) sb.room.units0 hF I.ok.mod.kin J J'.type (by simp [PySem.W.notFirst]) hs hf ?_
  have hsp : spEqB R [.ref a, .ref b] H (fun v H' => v = .bl k ∧ Ext H H') E := ⟨a, b, k, rfl, hr, fun H' e => ⟨rfl, e⟩⟩
  have e1 := I.env0
  have e0 : Env0 X.prog X.w X.K X.mg X.base A X.stack s H := ⟨by rw [sb.fr]; exact e1.frames, e1.mod, e1.bs, e1.bsz, e1.funs, e1.frf, e1.hok, e1.bare⟩
  have hl := F.len _ _ _ _ hsp
  have bd := hb s [.ref a, .ref b] I.kIn (by simpa using hl)
  have bd' : BindsTo s fd ⟨[.ref a, .ref b], []⟩ (ps.zip [.ref a, .ref b]) := by simpa using bd
  refine wpAny_call (codeAny_mono (F.run A X.stack s H ⟨[.ref a, .ref b], []⟩ [.ref a, .ref b] [.ref a, .ref b] _ E sb.room e0 bd' (.cons rfl (.cons rfl .nil)) hsp) fun r s' hq => ?_)
  match r, hq with
  | .error e, hq => exact hx pins σ H s e s' I hq
  | .ok (.ret z), hq =>
    obtain ⟨zv, H', I', rz, ez, ex⟩ := I.after hq
    subst ez
    cases rz
    exact ⟨rfl, H', I', ex⟩
  | .ok .next, hq => exact hq.elim
  | .ok .brk, hq => exact hq.elim
  | .ok .cont, hq => exact hq.elim
/-- within a tuple: the same object is equal to itself -/
theorem RcB.eqB (h : RcB X n D) (hr : ∀ x y H k, D x y H k → ∃ a b, x = .ref a ∧ y = .ref b ∧ (a = b → k = true)) : EqB X n D := by
  intro A pins s σ H x y u v k sb I rx ry d
  obtain ⟨a, b, rfl, rfl, hk⟩ := hr _ _ _ _ d
  cases rx
  cases ry
  by_cases hab : a = b
  · have hk' := hk hab
    subst hab hk'
    exact SeqAt.EqAt.same (A := A) (s := s) (.ref a) X.prog X.w X.xe _ ⟨rfl, H, I, Ext.rfl'⟩
  · refine GQ.eqBool_refG hab (wpAny_mono (h A pins s σ H (.ref a) (.ref b) _ _ k sb I rfl rfl d) (fun r s' q => ?_) fun _ _ x => x)
    obtain ⟨hr', q⟩ := q
    exact ⟨k, hr', rfl, q⟩
/-- tuples of one length, place by place; ks the answers -/
def DTupB (K : PySem.W.Frag) (D : EqvB) : EqvB := fun x y H k => ∃ (a b : Addr) (xs ys : List V) (ks : List Bool), x = .ref a ∧ y = .ref b ∧ SqT K H a xs ∧ SqT K H b ys ∧ xs.length = ys.length ∧ ks.length = xs.length ∧
  (∀ (i : Nat) x y c, xs[i]? = some x → ys[i]? = some y → ks[i]? = some c → D x y H c) ∧ k = ks.all id
theorem all_take {ks : List Bool} {i : Nat} (h : ∀ j, j < i → ks[j]? = some true) (hi : ks.length ≤ i) : ks.all id = true := by
  rw [List.all_eq_true]
  intro c hc
  obtain ⟨j, hj⟩ := List.mem_iff_getElem?.mp hc
  have hjl := (List.getElem?_eq_some_iff.mp hj).1
  have q := h j (Nat.lt_of_lt_of_le hjl hi)
  rw [hj] at q
  cases q
  rfl
theorem rcB_tup (hD : MonB D) (h : EqB X n D) : RcB X (n + 1) (DTupB X.K D) := by
  intro A pins s σ H x y u v k sb I rx ry d
  obtain ⟨a, b, xs, ys, ks, rfl, rfl, ha, hb, hlen, hks, hp, rfl⟩ := d
  cases rx
  cases ry
  obtain ⟨its, r, e, z⟩ := I.tuple ha
  obtain ⟨its2, r2, e2, z2⟩ := I.tuple hb
  have l1 := r.length
  have l2 := r2.length
  have hsz : its.toArray.size = its2.toArray.size := by rw [List.size_toArray, List.size_toArray, ← l1, ← l2]; exact hlen
  refine GQ.rc_tupB hsz sb.room.units0 (fun i s' => (∃ H', Inv X pins σ H' s' ∧ Ext H H') ∧ ∀ j, j < i → ks[j]? = some true) (fun s' => (∃ H', Inv X pins σ H' s' ∧ Ext H H') ∧ ks.all id = false) e e2 (fun i h1 h2 s' q => ?_) (fun s' q => ?_) (fun s' q => ?_) ⟨⟨H, I, Ext.rfl'⟩, fun j hj => absurd hj (Nat.not_lt_zero _)⟩
  · obtain ⟨⟨H1, I1, e1⟩, hk⟩ := q
    have h1' : i < its.length := by simpa using h1
    have h2' : i < its2.length := by simpa using h2
    have g1 : its[i]? = some its.toArray[i] := by rw [List.getElem?_eq_getElem h1'] <;> simp
    have g2 : its2[i]? = some its2.toArray[i] := by rw [List.getElem?_eq_getElem h2'] <;> simp
    have k1 : i < xs.length := by omega
    have k2 : i < ys.length := by omega
    have k3 : i < ks.length := by omega
    obtain ⟨uu, hu, ru⟩ := r.get (List.getElem?_eq_getElem k1)
    obtain ⟨vv, hv, rv⟩ := r2.get (List.getElem?_eq_getElem k2)
    rw [g1] at hu
    rw [g2] at hv
    rw [Option.some.inj hu, Option.some.inj hv]
    refine wpAny_mono (h A.in1 pins s' σ H1 _ _ uu vv ks[i] sb.in1 I1 ru rv (hD _ _ _ _ _ e1 (hp i _ _ _ (List.getElem?_eq_getElem k1) (List.getElem?_eq_getElem k2) (List.getElem?_eq_getElem k3)))) (fun rr s2 q2 => ?_) fun _ _ x => x
    obtain ⟨hr, H2, I2, e2'⟩ := q2
    have hki : ks[i]? = some rr := by rw [hr]; exact List.getElem?_eq_getElem k3
    cases rr with
    | true =>
      refine .inl ⟨rfl, ⟨H2, I2, e1.trans e2'⟩, fun j hj => ?_⟩
      rcases Nat.lt_succ_iff_lt_or_eq.mp hj with hj | rfl
      · exact hk j hj
      · exact hki
    | false =>
      refine .inr ⟨rfl, ⟨H2, I2, e1.trans e2'⟩, ?_⟩
      rw [List.all_eq_false]
      exact ⟨false, List.mem_of_getElem? hki, by decide⟩
  · obtain ⟨q1, hk⟩ := q
    exact ⟨by rw [all_take hk (by simp; omega)], q1⟩
  · obtain ⟨q1, hk⟩ := q
    exact ⟨by rw [hk], q1⟩
/-- the same for !=, told by what == would say -/
def RcNB (X : Cx) (n : Nat) (D : EqvB) : Prop :=
  ∀ (A : Around) (pins : List (Addr × Obj)) (s : Shared) (σ : St) (H : Hp) (x y : V) (u v : Value) (k : Bool), Sub X n A → Inv X pins σ H s → RelV x u → RelV y v → D x y H k →
    wpAny (model X.prog X.w) A (richCompare .NotEq u v) (fun r s' => r = .bool (!k) ∧ ∃ H', Inv X pins σ H' s' ∧ Ext H H') X.xe s
theorem rcNB_tup (hD : MonB D) (h : EqB X n D) : RcNB X (n + 1) (DTupB X.K D) := by
  intro A pins s σ H x y u v k sb I rx ry d
  obtain ⟨a, b, xs, ys, ks, rfl, rfl, ha, hb, hlen, hks, hp, rfl⟩ := d
  cases rx
  cases ry
  obtain ⟨its, r, e, z⟩ := I.tuple ha
  obtain ⟨its2, r2, e2, z2⟩ := I.tuple hb
  have l1 := r.length
  have l2 := r2.length
  have hsz : its.toArray.size = its2.toArray.size := by rw [List.size_toArray, List.size_toArray, ← l1, ← l2]; exact hlen
  refine GQ.rc_tupNB hsz sb.room.units0 (fun i s' => (∃ H', Inv X pins σ H' s' ∧ Ext H H') ∧ ∀ j, j < i → ks[j]? = some true) (fun s' => (∃ H', Inv X pins σ H' s' ∧ Ext H H') ∧ ks.all id = false) e e2 (fun i h1 h2 s' q => ?_) (fun s' q => ?_) (fun s' q => ?_) ⟨⟨H, I, Ext.rfl'⟩, fun j hj => absurd hj (Nat.not_lt_zero _)⟩
  · obtain ⟨⟨H1, I1, e1⟩, hk⟩ := q
    have h1' : i < its.length := by simpa using h1
    have h2' : i < its2.length := by simpa using h2
    have g1 : its[i]? = some its.toArray[i] := by rw [List.getElem?_eq_getElem h1'] <;> simp
    have g2 : its2[i]? = some its2.toArray[i] := by rw [List.getElem?_eq_getElem h2'] <;> simp
    have k1 : i < xs.length := by omega
    have k2 : i < ys.length := by omega
    have k3 : i < ks.length := by omega
    obtain ⟨uu, hu, ru⟩ := r.get (List.getElem?_eq_getElem k1)
    obtain ⟨vv, hv, rv⟩ := r2.get (List.getElem?_eq_getElem k2)
    rw [g1] at hu
    rw [g2] at hv
    rw [Option.some.inj hu, Option.some.inj hv]
    refine wpAny_mono (h A.in1 pins s' σ H1 _ _ uu vv ks[i] sb.in1 I1 ru rv (hD _ _ _ _ _ e1 (hp i _ _ _ (List.getElem?_eq_getElem k1) (List.getElem?_eq_getElem k2) (List.getElem?_eq_getElem k3)))) (fun rr s2 q2 => ?_) fun _ _ x => x
    obtain ⟨hr, H2, I2, e2'⟩ := q2
    have hki : ks[i]? = some rr := by rw [hr]; exact List.getElem?_eq_getElem k3
    cases rr with
    | true =>
      refine .inl ⟨rfl, ⟨H2, I2, e1.trans e2'⟩, fun j hj => ?_⟩
      rcases Nat.lt_succ_iff_lt_or_eq.mp hj with hj | rfl
      · exact hk j hj
      · exact hki
    | false =>
      refine .inr ⟨rfl, ⟨H2, I2, e1.trans e2'⟩, ?_⟩
      rw [List.all_eq_false]
      exact ⟨false, List.mem_of_getElem? hki, by decide⟩
  · obtain ⟨q1, hk⟩ := q
    exact ⟨by rw [all_take hk (by simp; omega)]; rfl, q1⟩
  · obtain ⟨q1, hk⟩ := q
    exact ⟨by rw [hk]; rfl, q1⟩
/-- x == y, x != y as expressions -/
def rEqB (D : EqvB) : R2 := fun x y H Q => ∃ k, D x y H k ∧ ∀ H', Ext H H' → Q (.bl k) H'
def rNeB (D : EqvB) : R2 := fun x y H Q => ∃ k, D x y H k ∧ ∀ H', Ext H H' → Q (.bl (!k)) H'
theorem op_eqB (h : RcB X n D) (hr : Room n X.A) : OpR X (compareOp .Eq) (rEqB D) := by
  intro pins s σ H x y v u Q I rx ry hq
  obtain ⟨k, d, q⟩ := hq
  show wpAny (model X.prog X.w) X.A (richCompare .Eq v u) (EP X pins σ Q) X.xe s
  refine wpAny_mono (h X.A pins s σ H x y v u k ⟨hr, rfl⟩ I rx ry d) (fun r s' z => ?_) fun _ _ x => x
  obtain ⟨hr', H', I', e⟩ := z
  subst hr'
  exact ⟨.bl k, H', I', rfl, q H' e⟩
theorem op_neB (h : RcNB X n D) (hr : Room n X.A) : OpR X (compareOp .NotEq) (rNeB D) := by
  intro pins s σ H x y v u Q I rx ry hq
  obtain ⟨k, d, q⟩ := hq
  show wpAny (model X.prog X.w) X.A (richCompare .NotEq v u) (EP X pins σ Q) X.xe s
  refine wpAny_mono (h X.A pins s σ H x y v u k ⟨hr, rfl⟩ I rx ry d) (fun r s' z => ?_) fun _ _ x => x
  obtain ⟨hr', H', I', e⟩ := z
  subst hr'
  exact ⟨.bl (!k), H', I', rfl, q H' e⟩
end
end L2

set_option Elab.async false
set_option linter.all false
set_option maxRecDepth 100000
set_option maxHeartbeats 4000000
/-! except A as e: .. except B as e: ..; classes made with keyword-only parameters -/
namespace L2
open PySem PySem.Spec PyProof.Rows
abbrev SuT := Addr → Value → Option Addr → TS
/-- behind a suite the i-th slot is empty -/
def dropAt (i : Nat) (D : Ends) : Ends := { nx := fun g J => D.nx (g.set i none) J, rt := D.rt, bk := fun g J => D.bk (g.set i none) J, ct := fun g J => D.ct (g.set i none) J }
def wManyA (K : PySem.W.Frag) (Wo : WX) (D : Ends) : List (Value × Nat × SuT) → WX
  | [] => Wo
  | (c, i, ts) :: r => fun cl d g J => ∃ y, PySem.W.exmOne K cl c = some y ∧ (y = true → ∀ q, J q = none → ts q cl d (dropAt i D) (g.set i (some (.ref q))) J) ∧ (y = false → wManyA K Wo D r cl d g J)
inductive HdsA (X : Cx) : List ExceptHandler → List (Value × Nat × SuT) → Prop
  | nil : HdsA X [] []
  | cons {x n : Str} {c : Value} {i : Nat} {ts : SuT} {b0 : Stmt} {su : List Stmt} {np pp : Pos} {hds : List ExceptHandler} {l : List (Value × Nat × SuT)} (hi : X.N[i]? = some n) (hl : X.env.kindOf n = some .local) (hc : Names X x c)
      (hsu : ∀ (q : Addr) (oq : Obj) (cl : Value) (d : Option Addr) (pn : List (Addr × Obj)), Zc cl d oq → (∃ us, oq.data = .fields us) → PSs (X.suite q ((q, oq) :: pn)) (b0 :: su) (ts q cl d)) (r : HdsA X hds l) :
      HdsA X (.ExceptHandler (some (.Name x np)) (some n) (b0 :: su) pp :: hds) ((c, i, ts) :: l)
section
variable {X : Cx} {bd : List Stmt} {hd0 : ExceptHandler} {hds : List ExceptHandler} {l : List (Value × Nat × SuT)} {pos : Pos} {tb : WX → TS} {Wo : WX}
theorem ps_try_manyA (hs : X.stack = X.env :: X.outer) (hf : X.env.frame = some X.env.locals) (hN : X.N.Nodup) (tk : Takes X Wo)
    (hb : ∀ (W : WX) (pn : List (Addr × Obj)) (xe : Value → Shared → Prop), Takes (X.tr pn xe) W → PassesOwn (model X.prog X.w) X.A X.env xe → PSs (X.tr pn xe) bd (tb W))
    (hh : HdsA X (hd0 :: hds) l) : PS X (.Try bd (hd0 :: hds) [] [] pos) (fun D g J => tb (wManyA X.K Wo D l) D g J) := by
  refine ⟨fun pins s0 g0 J0 D I0 h => ?_⟩
  have kk := I0.ok
  have hfr : X.A.frames = some (X.env :: X.outer) := by rw [kk.frames, hs]
  refine wpAny_Try_except (wpAny_mono ((hb (wManyA X.K Wo D l) (X.pn ++ pins) (fun u t1 => wpAny (model X.prog X.w) X.A (noteFrame u X.env) (fun _ t2 => wpAny (model X.prog X.w) X.A (setFlight u none) (fun _ t3 =>
    wpAny (model X.prog X.w) X.A (handleBy u X.env (hd0 :: hds)) (SP X pins D) X.xe t3) X.xe t2) X.xe t1) (fun u t1 xx => ?_) PassesOwn.looking).run [] s0 g0 J0 D (I0.toTry _) h) (fun fl t1 hsp => ?_) (fun _ _ z => z))
  · obtain ⟨q, B, sI, pns, g1, J1, cl, d, rfl, K1, nb, up, sky, na, os, ag, wx⟩ := xx
    have V : Inv X pins g1 J1 sI := K1.ofTry kk
    have sky2 : Sky B (X.env :: X.outer) q (Zc cl d) X.env.locals t1.heap := by rw [← hs]; exact sky
    show wpAny (model X.prog X.w) X.A (noteFrame (.ref q) X.env) _ _ _
    refine Sky.land Zc.steady hfr hf sky2 fun h3 f3 u3 => ?_
    have V3 : Inv X pins g1 J1 { t1 with heap := h3 } := V.landed nb f3.1 (up.trans u3) os ag
    obtain ⟨o3, v3, e3, z3, d3⟩ := f3.there
    have apart : ∀ {hh : Heap} {o : Obj} {us : Array Value}, hh.FunFrames B (X.env :: X.outer) → hh.get? q = some o → o.data = .fields us → q ∉ frs (X.env :: X.outer) := fun {hh o us} ff e dd hm => by
      obtain ⟨_, o', e', hnf⟩ := ff.mem hm
      rw [e] at e'
      cases e'
      exact hnf _ dd
    have np := apart f3.2.2.1 e3 d3
    have nL : q ≠ X.env.locals := fun z => np (List.mem_filterMap.mpr ⟨X.env, List.mem_cons_self, by rw [hf, z]⟩)
    have nF : q ∉ X.fs := fun hm => by
      obtain ⟨e, he, r⟩ := List.mem_filterMap.mp hm
      exact np (List.mem_filterMap.mpr ⟨e, List.mem_cons_of_mem _ he, r⟩)
    have S3 := V3.suite e3 d3 na nL nF
    have go : ∀ {hz : List ExceptHandler} {lz : List (Value × Nat × SuT)}, HdsA X hz lz → wManyA X.K Wo D lz cl d g1 J1 → wpAny (model X.prog X.w) X.A (handleBy (.ref q) X.env hz) (SP X pins D) X.xe { t1 with heap := h3 } := by
      intro hz lz hk
      induction hk with
      | nil =>
        intro wz
        refine wpAny_handleBy_nil ?_
        obtain ⟨_, _, _, oq, us, TB, oT, ts2, he, hq, hdd, h1, hr⟩ := id f3
        unfold PySem.passOn
        refine wpAny_bind (wpAny_field he hdd h1 ?_)
        rw [if_neg (show ¬ ((Value.ref TB == Value.none) = true) by simp)]
        have fin : wpAny (model X.prog X.w) X.A (setFlight (.ref q) X.env.frame) (fun _ t4 => wpAny (model X.prog X.w) X.A (throw (.ref q) : Sem Flow) (SP X pins D) X.xe t4) X.xe { t1 with heap := h3 } := by
          rw [hf]
          refine HandSPX.setFlight_upZ f3 fun h4 hh4 up4 => wpAny_throw (tk _ _ ?_)
          exact ⟨q, B, sI, pins, g1, J1, cl, d, rfl, V, nb, (up.trans u3).trans up4, .inr (.inr (by rw [hs]; exact hh4)), na, os, ag, wz⟩
        first | exact wpAny_bind (wpAny_pure (wpAny_bind fin)) | exact wpAny_bind fin
      | @cons x n c i ts b0 su np pp hds2 l2 hi hl hc hsu r ih =>
        intro wz
        obtain ⟨y, hy, yes, no⟩ := wz
        refine wpAny_handleBy_cons (codeAny_handlers_test ?_) (by intro z; cases z)
        have LT : PySem.W.Looks (model X.prog X.w) h3 (typeOf (.ref q)) cl := fun A Q E s k r => wpAny_typeOf_ref (k _ _ e3) (by rw [z3.1]; exact r)
        have LM := PySem.W.exm_one (M := model X.prog X.w) (V3.kIn) LT hy
        have tst : ∀ {Q E : Value → Shared → Prop}, Q c { t1 with heap := h3 } → wpAny (model X.prog X.w) (X.A.mark (some (.ref q))) (eval (.Name x np) X.env) Q E { t1 with heap := h3 } := fun {Q E} z => by
          obtain ⟨hg, hdbg, hm | ⟨hm, hv, hnn⟩⟩ := hc
          · exact ld_glob (X := X.suite q ((q, o3) :: (X.pn ++ pins))) S3 hg hm z hdbg
          · exact ld_blt (X := X.suite q ((q, o3) :: (X.pn ++ pins))) S3 hg hm hv z hnn hdbg
        refine tst (LM.here ?_)
        cases y with
        | true =>
          refine codeAny_handlers_suite_as (HandSPX.lands_againZ f3 fun h4 f4 u4 => ?_)
          have V4 : Inv X pins g1 J1 { t1 with heap := h4 } := V.landed nb f4.1 ((up.trans u3).trans u4) os ag
          obtain ⟨o4, v4, e4, z4, d4⟩ := f4.there
          have S4 := V4.suite e4 d4 na nL nF
          have hloc : Loc X.env.scope n := .inl hl
          refine store_ok (X := X.suite q ((q, o4) :: (X.pn ++ pins))) (v := .ref q) S4 hN hi hloc rfl (fun t5 S5 => ?_) (.inr hl)
          refine wpAny_mono ((hsu q o4 cl d (X.pn ++ pins) z4 ⟨_, d4⟩).run [] t5 _ J1 _ S5 (yes rfl q na)) (fun fl t6 sp => ?_) (fun _ _ z => False.elim z)
          have ends : ∀ {g6 : St} {J6 : Hp} {Q : Shared → Prop}, Inv (X.suite q ((q, o4) :: (X.pn ++ pins))) [] g6 J6 t6 → (∀ t7, Inv X pins (g6.set i none) J6 t7 → Q t7) →
              wpAny (model X.prog X.w) X.A (do bindName X.env n .none; unbindBehindTheSuite X.env n pp) (fun _ t7 => Q t7) X.xe t6 := fun {g6 J6 Q} S6 hq => gone_ok (S6.unsuite kk) hN hi hl hq
          cases fl with
          | next =>
            obtain ⟨g6, J6, S6, r6⟩ := sp
            exact ends S6 fun t7 V7 => ⟨_, _, V7, r6⟩
          | brk =>
            obtain ⟨g6, J6, S6, r6⟩ := sp
            exact ends S6 fun t7 V7 => ⟨_, _, V7, r6⟩
          | cont =>
            obtain ⟨g6, J6, S6, r6⟩ := sp
            exact ends S6 fun t7 V7 => ⟨_, _, V7, r6⟩
          | ret u =>
            obtain ⟨w6, g6, J6, S6, r6, y6⟩ := sp
            exact ends S6 fun t7 V7 => ⟨_, _, _, V7, r6, y6⟩
        | false =>
          show wpAny _ X.A (handleBy (.ref q) X.env hds2) _ _ _
          exact ih (no rfl)
    exact go hh wx
  · cases fl with
    | next =>
      obtain ⟨g6, J6, V6, r⟩ := hsp
      exact wpAny_execs_nil ⟨g6, J6, V6.ofTry kk, r⟩
    | brk =>
      obtain ⟨g6, J6, V6, r⟩ := hsp
      exact ⟨g6, J6, V6.ofTry kk, r⟩
    | cont =>
      obtain ⟨g6, J6, V6, r⟩ := hsp
      exact ⟨g6, J6, V6.ofTry kk, r⟩
    | ret u =>
      obtain ⟨v6, g6, J6, V6, rv, r⟩ := hsp
      exact ⟨v6, g6, J6, V6.ofTry kk, rv, r⟩
end
/-! ### C(e, .., k = v, ..), keyword-only parameters without defaults, all written in their order -/
section
variable {K : PySem.W.Frag} {x qual : Str} {st : Stmt} {f : Addr} {fd : FuncData} {ps ks : List Str} {n : Nat}
abbrev KBa (K : PySem.W.Frag) (fd : FuncData) (ps : List Str) (n : Nat) (ks : List Str) : Prop := KBn K fd ps n ks (fun us ws => us ++ ws) (fun vs zs => vs ++ zs)
theorem Fun.kba (F : Fun K x qual st f fd)
    (h : ∀ (kV doc pm : Value) (an : Option Addr) (cdv ct : Value) (us ws : List Value), us.length = n → ws.length = ks.length → bindArgs (PySem.W.fnOf x qual (defArgs st) (defBody st) (defScope st) .none kV doc pm an cdv ct) ⟨us, ks.zip ws⟩ = pure (ps.zip (us ++ ws))) : KBa K fd ps n ks := by
  obtain ⟨_, _, kV, doc, pm, an, cdv, ct, _, rfl, _, _⟩ := F.ex
  exact ⟨fun s us ws _ l1 l2 => .of_eq (h kV doc pm an cdv ct us ws l1 l2), fun r1 r2 => r1.append r2⟩
end
structure OwnCK (P : Program) (w : World) (K : PySem.W.Frag) (mg : Str → Option Value) (base : Heap) (CX : CXT) (x : Str) (C : Addr) (k : Nat) (ps : List Str) (n : Nat) (ks : List Str) (sp : Sp) : Prop where
  ex : ∃ (f : Addr) (fd : FuncData), FnOk P w K mg base CX k f fd ps sp ∧ Mk K C f ∧ mg x = some (.ref C) ∧ KBa K fd ps (n + 1) ks
section
variable {X : Cx} {CX : CXT} {k n : Nat} {f C : Addr} {fd : FuncData} {ps ks : List Str} {sp : Sp} {E : St → XK} {x : Str} {p pos : Pos} {e : Expr} {es : List Expr} {kws : List Keyword} {t tk : TA} {W : WX}
/-- the errors wished at the slots -/
def tMakeKS (C : Addr) (n m : Nat) (sp : Sp) (E : St → XK) (t tk : TA) : TE := fun g J Q => t g J fun vs J1 => tk g J1 fun zs J2 => vs.length = n ∧ zs.length = m ∧ ∀ o dx, J2 o = none → J2 dx = none → dx ≠ o →
  sp (.ref o :: vs ++ zs) (upd (upd J2 dx (.own o)) o (.ins C dx [])) (fun v J3 => v = .non ∧ Q (.ref o) J3) (fun cl d J3 => E g cl d J3)
theorem run_makeKS {pins : List (Addr × Obj)} {g : St} {J : Hp} {s : Shared} {Q : VK} {us ws : List Value} {vs zs : List V} (M : Mk X.K C f) (F : FnOk X.prog X.w X.K X.mg X.base CX k f fd ps sp) (hr : Room (k + 1) X.A) (hb : KBa X.K fd ps (n + 1) ks) (hx : PassesAt CX X g (E g))
    (I : Inv X pins g J s) (r : Vals vs us) (rz : Vals zs ws) (l1 : vs.length = n) (l2 : zs.length = ks.length)
    (h : ∀ o dx, J o = none → J dx = none → dx ≠ o → sp (.ref o :: vs ++ zs) (upd (upd J dx (.own o)) o (.ins C dx [])) (fun v J2 => v = .non ∧ Q (.ref o) J2) (E g)) :
    wpAny (model X.prog X.w) X.A (call (.ref C) us (ks.zip ws)) (EP X pins g Q) X.xe s := by
  have want := h (s.heap.objs.size + 1) s.heap.objs.size (I.hok.fresh (Nat.le_succ _)) (I.hok.fresh (Nat.le_refl _)) (Nat.ne_of_lt (Nat.lt_succ_self _))
  have I2 := Inv.made (C := C) I
  have m1 : Vals (V.ref (s.heap.objs.size + 1) :: vs) (Value.ref (s.heap.objs.size + 1) :: us) := .cons rfl r
  have m2 := hb.rel m1 rz
  have k1 : (Value.ref (s.heap.objs.size + 1) :: us).length = n + 1 := by rw [List.length_cons, ← r.length, l1]
  refine wpAny_call (make_map (f := f) I.kIn M.makes M.init (beq_iff_eq.mp M.fn) (codeAny_mono (F.run _ X.stack _ _ ⟨Value.ref (s.heap.objs.size + 1) :: us, ks.zip ws⟩ (Value.ref (s.heap.objs.size + 1) :: us ++ ws) _ _ (E g) (hr.make C us (ks.zip ws))
    (I2.env0.make C us (ks.zip ws)) (hb.to _ (Value.ref (s.heap.objs.size + 1) :: us) ws I2.kIn k1 (rz.length.symm.trans l2)) m2 want) fun z t1 hz => ?_))
  cases z with
  | error u => exact hx pins _ _ u t1 I2 hz
  | ok fl =>
    cases fl with
    | ret u =>
      obtain ⟨v, J3, I3, rv, ev, q3⟩ := I2.after hz
      subst ev
      exact ⟨rv, ⟨V.ref (s.heap.objs.size + 1), J3, I3, rfl, q3⟩⟩
    | next => exact False.elim hz
    | brk => exact False.elim hz
    | cont => exact False.elim hz
theorem pe_newKS (O : OwnCK X.prog X.w X.K X.mg X.base (L2.CX X.prog X.w) x C k ps n ks sp) (hr : Room (k + 1) X.A) (tw : Takes X W) (ha : PA X (e :: es) t) (hkw : PK X kws tk) (hg : Gl X x := by rfl)
    (hall : (backToKw pos (keywordEach kws X.env)).all (·.1.isSome) = true := by rfl) (hks : (backToKw pos (keywordEach kws X.env)).filterMap (·.1) = ks := by rfl) (hdb : (x == ("__debug__" : Str)) = false := by decide)
    (he : starEach (e :: es) X.env = (false, eval e X.env) :: starEach es X.env := by rfl) (hpl : ((backTo pos (starEach (e :: es) X.env)).any (·.1) || (backToKw pos (keywordEach kws X.env)).any (·.1.isNone)) = false := by rfl) :
    PE X (.Call (.Name x p) (e :: es) kws pos) (tMakeKS C n ks.length sp (WE W) t tk) := by
  obtain ⟨f, fd, F, M, hm, hb⟩ := O.ex
  refine ⟨fun pins s g J Q I h => wpAny_Call_Name_kw (ld_glob I hg hm ?_ hdb)⟩
  refine PySem.W.callWith_KW (h₀ := X.base) I.ok.mod.kin M.kp hall (thn (ha.run pos pins s g J _ I h) fun us s1 ⟨vs, J1, I1, r, q⟩ => ?_) hpl he
  refine thn (hkw.run pos pins s1 g J1 _ I1 q) fun ws s2 ⟨zs, J2, I2, rz, l1, l2, q2⟩ => ⟨I2.kIn, ?_⟩
  rw [hks]
  exact run_makeKS M F hr hb (passAt tw g) I2 r rz l1 l2 q2
end
section
variable {X : Cx} {e : Expr} {f : Str} {pos : Pos} {ta : TE}
/-- e.f where the context is not known yet -/
theorem pe_fldA (he : PE X e ta) (hb : attributeBase e f X.env (eval e X.env) = eval e X.env := by rfl) : PE X (.Attribute e f pos) (tFld X.K ta f) := pe_fld he hb
end
end L2

set_option Elab.async false
set_option maxRecDepth 100000
set_option maxHeartbeats 4000000
/-! slices and sums of tuples, whichever object it is -/
namespace L2
open PySem PySem.Spec PyProof.Rows
section
variable {X : Cx}
theorem cut_whole {xs : List V} {lo hi : Option Int} (h : HT.sIx xs.length 0 lo = 0 ∧ HT.sIx xs.length xs.length hi = xs.length) : cutV xs lo hi = xs := by
  unfold cutV
  rw [h.1, h.2]
  simp
/-- a slice of a tuple, whichever object it is -/
def rSlE : V → Option Int → Option Int → Hp → VK → Prop := fun x lo hi H Q => ∃ a xs, x = .ref a ∧ H a = some (.tup xs) ∧ ∀ p H', Ext H H' → H' p = some (.tup (cutV xs lo hi)) → Q (.ref p) H'
theorem sl_tupE : SlR X rSlE := by
  intro pins s σ H x v vl vu lo hi sl Q I rx hs pl pu h
  obtain ⟨a, xs, rfl, ha, q⟩ := h
  exact sl_tupA pins s σ H _ v vl vu lo hi sl Q I rx hs pl pu ⟨a, xs, rfl, SqT.of ha, fun hw => q a H Ext.rfl' (by rw [cut_whole hw]; exact ha), fun _ p hp => q p _ (Ext.upd hp) upd_same⟩
/-- the sum of two tuples, whichever object it is -/
def rCatE : R2 := fun x y H Q => ∃ a b xs ys, x = .ref a ∧ y = .ref b ∧ H a = some (.tup xs) ∧ H b = some (.tup ys) ∧ xs.length + ys.length ≤ sizeLine ∧ ∀ p H', Ext H H' → H' p = some (.tup (xs ++ ys)) → Q (.ref p) H'
theorem op_catE : OpR X (binaryOp .Add) rCatE := by
  intro pins s σ H x y v u Q I rx ry h
  obtain ⟨a, b, xs, ys, rfl, rfl, ha, hb, hz, q⟩ := h
  refine op_catA pins s σ H _ _ v u Q I rx ry ⟨a, b, xs, ys, rfl, rfl, SqT.of ha, SqT.of hb, hz, fun e => q b H Ext.rfl' ?_, fun _ e => q a H Ext.rfl' ?_, fun _ _ p hp => q p _ (Ext.upd hp) upd_same⟩
  · subst e
    exact hb
  · subst e
    rw [List.append_nil]
    exact ha
end
end L2

set_option Elab.async false
set_option linter.all false
set_option maxRecDepth 100000
set_option maxHeartbeats 4000000
/-! one of two readings; tuple.index of flat items; an own __contains__ -/
namespace PySem.W
open PySem PySem.Calls PyProof.Rows
section
variable {prog : Program} {w : World} {A : Around} {E : Value → Shared → Prop} {s : Shared} {K : Frag} {x C f : Addr} {ox : Obj} {od : Option Obj}
theorem contains_fn {v : Value} {Q : Bool → Shared → Prop} (X : K.In s.heap) (I : InstAt s.heap x ox C od) (hs : findIn K (.ref C) "__contains__" = some (some (.ref f))) (hf : isFn K (.ref f) = true)
    (h : wpAny (model prog w) A (call (.ref f) [.ref x, v]) (fun r s' => ∃ b, r = .bool b ∧ Q b s') E s) : wpAny (model prog w) A (contains (.ref x) v) Q E s := by
  unfold contains
  refine wpAny_holding ?_
  have e1 : stdlibNamesSay? (.ref x) v = none := rfl
  rw [e1]
  refine wpAny_bind (wpAny_bind (I.type.here ((looks_findIn X hs).here ?_)))
  show wpAny _ _ (if (some (Value.ref f) == some Value.none) = true then _ else _) _ _ _
  rw [if_neg (by simp)]
  refine wpAny_bind (m := callSpecialUnlessNone? (.ref x) _ _ _) ?_
  unfold callSpecialUnlessNone?
  refine wpAny_bind (wpAny_bind (I.type.here ((looks_findIn X hs).here ?_)))
  refine wpAny_holding (wpAny_bind ((bind_fn X _ (beq_iff_eq.mp hf)).here ?_))
  show wpAny _ _ (if (Value.ref f == Value.none) = true then _ else _) _ _ _
  rw [if_neg (by simp)]
  refine wpAny_bind (wpAny_mono h (fun r s' z => ?_) fun _ _ z => z)
  obtain ⟨b, rfl, q⟩ := z
  exact wpAny_pure (wpAny_truthy_bool q)
end
end PySem.W
namespace L2
open PySem PySem.Spec PyProof.Rows
section
variable {X : Cx}
theorem pe_either {ex : Expr} {t1 t2 : TE} (h1 : PE X ex t1) (h2 : PE X ex t2) : PE X ex (fun g J Q => t1 g J Q ∨ t2 g J Q) := ⟨fun pins s g J Q I h => h.elim (fun z => h1.run pins s g J Q I z) (fun z => h2.run pins s g J Q I z)⟩
def rIndexT (K : PySem.W.Frag) : V → List V → Hp → VK → Prop := fun o vs J Q => ∃ (p : Addr) (ts : List V) (e : V) (n : Nat) (c : V), o = V.ref p ∧ vs = [e] ∧ SqT K J p ts ∧ flatV e = true ∧ ts.all flatV = true ∧ ts[n]? = some c ∧ eqV c e = true ∧
  (∀ (m : Nat) (c' : V), m < n → ts[m]? = some c' → eqV c' e = false) ∧ Q (.int (n : Nat)) J
theorem mt_tupIndex : MtR X "tuple.index" (rIndexT X.K) := by
  intro pins s g J o vs v us Q I ro rvs h
  obtain ⟨p, ts, e, n, c, rfl, rfl, ht, fe, fts, hc, hce, no, q⟩ := h
  cases ro
  cases rvs with
  | cons re rt =>
    rename_i ue ut
    cases rt
    obtain ⟨its, rv, ⟨⟨cls, dd, dt, sl⟩, ho, hcl, nn, hd⟩, hz⟩ := I.tuple ht
    simp only at hcl hd
    subst hcl hd
    obtain ⟨u, hu, ru⟩ := rv.get hc
    obtain ⟨nl, ne⟩ := List.getElem?_eq_some_iff.mp hu
    have hvl := rv.length
    have hn : n < its.toArray.size := by simpa using nl
    refine call_meets PySem.F.slot_tuple_index ⟨_, ho, rfl⟩ PySem.F.entry_tuple_index (PySem.F.args_tuple_index_2 _ _) (TI.tuple_indexAt p its.toArray nn dd sl ue (eqU e) n hn ?_ ?_)
      ⟨ho, fun w hw => mem_eqAt re fe rv fts w (by simpa using hw), ?_⟩
    · have e1 : its.toArray[n] = u := by simpa using ne
      rw [e1, eqU_of ru (flat_at fts hc)]
      exact hce
    · intro m hm hmn
      have ml : m < its.length := by simpa using hm
      have mt : m < ts.length := by omega
      have gm : ts[m]? = some ts[m] := List.getElem?_eq_getElem mt
      obtain ⟨u2, hu2, ru2⟩ := rv.get gm
      obtain ⟨_, me⟩ := List.getElem?_eq_some_iff.mp hu2
      have e2 : its.toArray[m] = u2 := by simpa using me
      rw [e2, eqU_of ru2 (flat_at fts gm)]
      exact no m _ hmn gm
    · exact ⟨.int (n : Nat), J, I.tok _, ⟨_, rfl⟩, q⟩
end
section
variable {X : Cx} {CX : CXT} {k : Nat} {f C : Addr} {fd : FuncData} {ps : List Str} {sp : Sp}
/-- x in o, o an instance of the class at C with an own __contains__ -/
def rInO (C : Addr) (sp : Sp) : R2 := fun x y H Q => ∃ a dx fs, y = .ref a ∧ H a = some (.ins C dx fs) ∧ sp [y, x] H (fun v H' => ∃ b, v = .bl b ∧ Q (.bl b) H') E0
theorem op_inO (F : FnOk X.prog X.w X.K X.mg X.base CX k f fd ps sp) (hs : PySem.W.findIn X.K (.ref C) "__contains__" = some (some (.ref f))) (hf : PySem.W.isFn X.K (.ref f) = true) (hr : Room k X.A) (hb : Binds X.K fd ps []) (hx : Passes CX X E0) : OpR X (compareOp .In) (rInO C sp) := by
  intro pins s g J x y v u Q I rx ry hq
  obtain ⟨a, dx, fs, rfl, ha, q⟩ := hq
  cases (show u = Value.ref a from ry)
  obtain ⟨mA, O, _⟩ := ins_get I.hok ha
  obtain ⟨od, O, _⟩ := O.look
  show wpAny (model X.prog X.w) X.A (contains (.ref a) v >>= fun b => pure (.bool b)) (EP X pins g Q) X.xe s
  refine wpAny_bind (PySem.W.contains_fn I.kIn O hs hf (wpAny_mono (run_at (vs := [.ref a, x]) F hr rfl hb hx I (.cons rfl (.cons rx .nil)) q) (fun r s' z => ?_) fun _ _ e => e))
  obtain ⟨w', J', I', rv, b, rfl, q'⟩ := z
  cases rv
  exact ⟨b, rfl, wpAny_pure ⟨.bl b, J', I', rfl, q'⟩⟩
theorem inO {m : Nat} (O : OwnM X.prog X.w X.K X.mg X.base CX C "__contains__" m ps sp) (hr : Room m X.A) (hx : Passes CX X E0) : OpR X (compareOp .In) (rInO C sp) := by
  obtain ⟨f, fd, F, M, hi, hb⟩ := O.ex
  exact op_inO F M.at_ hi hr hb hx
end
end L2

set_option Elab.async false
set_option maxRecDepth 100000
set_option maxHeartbeats 4000000
/-! ranges with a step made lists and tuples; zip of two tuples in a comprehension; a def that is held by a name -/
namespace L2
open PySem PySem.Spec PyProof.Rows
theorem pss_dead {X : Cx} {ss : List Stmt} : PSs X ss (fun _ _ _ => False) := ⟨fun _ _ _ _ _ _ h => h.elim⟩
/-- the def at f keeps its promise -/
structure OwnAt (P : Program) (w : World) (K : PySem.W.Frag) (mg : Str → Option Value) (base : Heap) (CX : CXT) (f : Addr) (k : Nat) (ps : List Str) (sp : Sp) : Prop where
  ex : ∃ fd, FnOk P w K mg base CX k f fd ps sp ∧ PySem.W.keepIn K (.ref f) = true ∧ Binds K fd ps []
theorem Own.at_ {P : Program} {w : World} {K : PySem.W.Frag} {mg : Str → Option Value} {base : Heap} {CX : CXT} {x : Str} {k : Nat} {ps : List Str} {sp : Sp} (O : Own P w K mg base CX x k ps sp) : ∃ f, mg x = some (.ref f) ∧ OwnAt P w K mg base CX f k ps sp := by
  obtain ⟨f, fd, F, hm, hk, hb⟩ := O.ex
  exact ⟨f, hm, fd, F, hk, hb⟩
section
variable {X : Cx} {CX : CXT} {x : Str} {k i : Nat} {f : Addr} {ps : List Str} {sp : Sp} {e : Expr} {es : List Expr} {t : TA} {p pos : Pos}
/-- the i-th slot holds f, which is called; W is wished for what it raises -/
def tCallVS (i : Nat) (f : Addr) (sp : Sp) (E : St → XK) (t : TA) : TE := fun σ H Q => σ[i]? = some (some (.ref f)) ∧ t σ H fun vs H1 => sp vs H1 Q (E σ)
theorem pe_ownVS {W : WX} (O : OwnAt X.prog X.w X.K X.mg X.base (L2.CX X.prog X.w) f k ps sp) (hr : Room k X.A) (tk : Takes X W) (hN : X.N[i]? = some x) (hv : Vis X.env.scope x) (ha : PA X (e :: es) t)
    (hdb : (x == ("__debug__" : Str)) = false := by decide) (hcd : (x == ("__classdict__" : Str)) = false := by decide)
    (he : starEach (e :: es) X.env = (false, eval e X.env) :: starEach es X.env := by rfl) (hpl : (backTo pos (starEach es X.env)).any (·.1) = false := by rfl) : PE X (.Call (.Name x p) (e :: es) [] pos) (tCallVS i f sp (WE W) t) := by
  obtain ⟨fd, F, hk, hb⟩ := O.ex
  refine ⟨fun pins s σ H Q I h => ?_⟩
  obtain ⟨hσ, h⟩ := h
  refine PyProof.Rows.Call_ (thn ((pe_var (pos := p) hN hv hdb hcd).run pins s σ H (fun y H1 => y = .ref f ∧ H1 = H) I ⟨_, hσ, rfl, rfl⟩) fun u s1 ⟨y, H1, I1, rx, ex, eh⟩ => ?_) rfl
  subst ex eh
  obtain rfl : u = Value.ref f := rx
  refine PySem.W.callWith_K (h₀ := X.base) I1.ok.mod.kin hk (thn (ha.run pos pins s1 σ H1 _ I1 h) fun us s2 ⟨vs, H2, I2, r, q⟩ => ⟨I2.kIn, ?_⟩) he hpl
  exact run_fnSD (us := us) (vs := vs) F hr hb .nil (passAt tk σ) I2 r (by rw [List.append_nil]; exact q)
end
/-! zip of two tuples -/
section
variable {K : PySem.W.Frag} {a b : Addr} {xs ys : List V}
theorem walk_zipT {n : Nat} (hn : n = min xs.length ys.length) : Walk (RZ.ItzT K a b) n (fun H => SqT K H a xs ∧ SqT K H b ys) (YPair (fun i => xs[i]?) (fun i => ys[i]?)) := by
  refine ⟨fun i _ hi q => ⟨xs, ys, xs[i]'(by omega), ys[i]'(by omega), q.1, q.2, List.getElem?_eq_getElem (by omega), List.getElem?_eq_getElem (by omega)⟩, fun _ q => ⟨xs, ys, q.1, q.2, by omega⟩, fun i H v H' _ q y => ?_⟩
  obtain ⟨T, x, y, e1, e2, e3, h1, h2⟩ := y
  exact ⟨T, x, y, e1, e2, e3, h1 xs q.1, h2 ys q.2⟩
end
/-! ranges with a step -/
section
variable {X : Cx}
def PRg3 (X : Cx) (e : Expr) (t : St → Hp → (Int → Int → Int → Hp → Prop) → Prop) : Prop :=
  ∀ (pins : List (Addr × Obj)) (s : Shared) (σ : St) (H : Hp) (Q : Int → Int → Int → Hp → Prop), Inv X pins σ H s → t σ H Q →
    wpAny (model X.prog X.w) X.A (eval e X.env) (fun x s' => ∃ r a b c t u v H', x = Value.ref r ∧ IsRange s'.heap r a b c t u v ∧ Inv X pins σ H' s' ∧ Q a b c H') X.xe s
def tRg3 (t : TA) (σ : St) (H : Hp) (Q : Int → Int → Int → Hp → Prop) : Prop := t σ H fun vs H1 => ∃ a b c, vs = [.int a, .int b, .int c] ∧ c ≠ 0 ∧ (-(2 ^ 62) ≤ a ∧ a < 2 ^ 62 ∧ -(2 ^ 62) ≤ b ∧ b < 2 ^ 62 ∧ c.natAbs < 1073741824) ∧ Q a b c H1
end
end L2

set_option Elab.async false
set_option maxRecDepth 100000
set_option maxHeartbeats 4000000
/-! comprehensions over ranges and over zip of two tuples, told by the place; what is tested and made only adds to the heap -/
namespace L2
open PySem PySem.Spec PyProof.Rows
/-- a comprehension's turns -/
abbrev LcGo (J : It) (g : TG) (tt : TT) (te : TE) (vs : List Nat) (σ : St) (H1 : Hp) (D : Addr) (Qd : Hp → Prop) : Prop :=
  ∃ W : Nat → Nat → Hp → Prop, (∃ m, W 0 m (upd H1 D (.lst []))) ∧ ∀ i m H, W i m H →
    (J.stop i H ∧ Qd H) ∨ (J.go i H ∧ ∃ Nx : Hp → Prop, (∀ H', Nx H' → ∃ m', m' < m ∧ W (i + 1) m' H') ∧ ∀ x H', J.yld i H x H' → g x (wipe σ vs) H' fun σ2 H2 => wipe σ2 vs = wipe σ vs ∧ tt σ2 H2 fun b H3 =>
      if b = true then te σ2 H3 fun y H4 => ∃ acc, H4 D = some (.lst acc) ∧ acc.length < sizeLine ∧ Nx (upd H4 D (.lst (acc ++ [y]))) else Nx H3)
theorem range_snoc (n : Nat) : List.range (n + 1) = List.range n ++ [n] := List.range_succ
section
variable {K : PySem.W.Frag} {σ : St} {H : Hp} {te : TE} {tt : TT} {vs : List Nat}
theorem lc_turn {f : Nat → V} {b : Nat → Bool} {D : Addr} {i n : Nat} {σ2 : St} {H' : Hp} (hD : H D = none) (hz : n < sizeLine) (hi : i < n) (hw : wipe σ2 vs = wipe σ vs) (e : Ext H H') (hl : H' D = some (.lst (((List.range i).filter b).map f)))
    (ht : ∀ Q : Bool → Hp → Prop, (∀ H'', Ext H' H'' → Q (b i) H'') → tt σ2 H' Q) (he : b i = true → ∀ H3, Ext H' H3 → ∀ Q : VK, (∀ H'', Ext H3 H'' → Q (f i) H'') → te σ2 H3 Q) :
    wipe σ2 vs = wipe σ vs ∧ tt σ2 H' fun b' H3 => if b' = true then te σ2 H3 fun y H4 => ∃ acc, H4 D = some (.lst acc) ∧ acc.length < sizeLine ∧ (Ext H (upd H4 D (.lst (acc ++ [y]))) ∧ upd H4 D (.lst (acc ++ [y])) D = some (.lst (((List.range (i + 1)).filter b).map f)))
      else (Ext H H3 ∧ H3 D = some (.lst (((List.range (i + 1)).filter b).map f))) := by
  refine ⟨hw, ht _ fun H3 e3 => ?_⟩
  have hl3 := e3 _ _ hl
  cases hb : b i with
  | true =>
    refine iteT (he hb H3 e3 _ fun H4 e4 => ⟨_, e4 _ _ hl3, ?_, ext_mut ((e.trans e3).trans e4) hD, ?_⟩)
    · rw [List.length_map]
      refine Nat.lt_of_le_of_lt (Nat.le_trans (List.length_filter_le _ _) ?_) hz
      rw [List.length_range]
      omega
    · rw [upd_same, range_snoc, List.filter_append, List.map_append]
      simp [hb]
  | false =>
    refine iteF ⟨e.trans e3, ?_⟩
    rw [hl3, range_snoc, List.filter_append, List.map_append]
    simp [hb]
theorem lc_rgR {Qd : Addr → Hp → Prop} {lo : Int} {n j : Nat} {f : Nat → V} {b : Nat → Bool} (hz : n < sizeLine) (hw : ∀ x, wipe ((wipe σ vs).set j (some x)) vs = wipe σ vs)
    (ht : ∀ i, i < n → ∀ H', Ext H H' → ∀ Q : Bool → Hp → Prop, (∀ H'', Ext H' H'' → Q (b i) H'') → tt ((wipe σ vs).set j (some (.int (lo + i)))) H' Q)
    (he : ∀ i, i < n → b i = true → ∀ H', Ext H H' → ∀ Q : VK, (∀ H'', Ext H' H'' → Q (f i) H'') → te ((wipe σ vs).set j (some (.int (lo + i)))) H' Q)
    (q : ∀ D H', H D = none → Ext H H' → H' D = some (.lst (((List.range n).filter b).map f)) → Qd D H') : ∀ D, H D = none → LcGo (Itr lo n) (gName j) tt te vs σ H D (Qd D) := fun D hD =>
  lc_range (fun i H' => Ext H H' ∧ H' D = some (.lst (((List.range i).filter b).map f))) ⟨Ext.upd hD, upd_same⟩ (fun i H' hi pv => lc_turn hD hz hi (hw _) pv.1 pv.2 (ht i hi H' pv.1) fun hb H3 e3 => he i hi hb H3 (pv.1.trans e3)) (fun H' pv => q D H' hD pv.1 pv.2)
theorem lc_zipR {Qd : Addr → Hp → Prop} {a b2 : Addr} {xs ys : List V} {n i1 i2 : Nat} {f : Nat → V} {b : Nat → Bool} (hx : SqT K H a xs) (hy : SqT K H b2 ys) (hn : n = min xs.length ys.length) (hz : n < sizeLine)
    (hw : ∀ x y, wipe (((wipe σ vs).set i1 (some x)).set i2 (some y)) vs = wipe σ vs)
    (ht : ∀ i x y, i < n → xs[i]? = some x → ys[i]? = some y → ∀ H', Ext H H' → ∀ Q : Bool → Hp → Prop, (∀ H'', Ext H' H'' → Q (b i) H'') → tt (((wipe σ vs).set i1 (some x)).set i2 (some y)) H' Q)
    (he : ∀ i x y, i < n → xs[i]? = some x → ys[i]? = some y → b i = true → ∀ H', Ext H H' → ∀ Q : VK, (∀ H'', Ext H' H'' → Q (f i) H'') → te (((wipe σ vs).set i1 (some x)).set i2 (some y)) H' Q)
    (q : ∀ D H', H D = none → Ext H H' → H' D = some (.lst (((List.range n).filter b).map f)) → Qd D H') : ∀ D, H D = none → LcGo (RZ.ItzT K a b2) (gTup K 2 (gCons (gName i1) (gCons (gName i2) gNil))) tt te vs σ H D (Qd D) := fun D hD => by
  refine lc_it (walk_zipT (K := K) (a := a) (b := b2) (xs := xs) (ys := ys) hn) (fun i H' => Ext H H' ∧ H' D = some (.lst (((List.range i).filter b).map f))) ⟨Ext.upd hD, upd_same⟩ (fun i H' _ pv => ⟨hx.ext pv.1, hy.ext pv.1⟩) (fun i v H' H'' hi pv y => ?_) (fun H' pv => q D H' hD pv.1 pv.2)
  obtain ⟨T, x, y, rfl, hT, rfl, h1, h2⟩ := y
  have eT := Ext.upd (o := .tup [x, y]) hT
  refine ⟨T, [x, y], rfl, SqT.of upd_same, rfl, x, [y], rfl, y, [], rfl, rfl, ?_⟩
  exact lc_turn hD hz hi (hw _ _) (pv.1.trans eT) (eT _ _ pv.2) (ht i x y hi h1 h2 _ (pv.1.trans eT)) fun hb H3 e3 => he i x y hi h1 h2 hb H3 ((pv.1.trans eT).trans e3)
end
end L2

set_option Elab.async false
set_option maxRecDepth 100000
set_option maxHeartbeats 4000000
/-! rules with the kit's own part named, for what stands within a comprehension -/
namespace L2
open PySem PySem.Spec PyProof.Rows
section
variable {X : Cx} {K : PySem.W.Frag}
theorem ix_tupK (h : X.K = K) : IxR X (rIxT K) := by
  subst h
  exact ix_tup
theorem ix_listK (h : X.K = K) : IxR X (rIxL K) := by
  subst h
  exact ix_list
theorem cr_maxK (h : X.K = K) (hc : X.calm = true) : CallR X (.builtin "max") (rMax K) := by
  subst h
  exact cr_max hc
theorem cr_minK (h : X.K = K) (hc : X.calm = true) : CallR X (.builtin "min") (rMin K) := by
  subst h
  exact cr_min hc
theorem pe_fldK {e : Expr} {ta : TE} {f : Str} {pos : Pos} (h : X.K = K) (he : PE X e ta) (hb : attributeBase e f X.env (eval e X.env) = eval e X.env := by rfl) : PE X (.Attribute e f pos) (tFld K ta f) := by
  subst h
  exact pe_fld he hb
def iListK (K : PySem.W.Frag) (tl : TE) : TI := fun σ H R => tl σ H fun x H1 => ∃ a, x = .ref a ∧ (∃ xs, SqL K H1 a xs) ∧ R (Itl K a) H1
theorem pi_listK {tg l : Expr} {tl : TE} (h : X.K = K) (hl : PE X l tl) : PI X tg l (iListK K tl) := by
  subst h
  exact pi_list hl
def rTupOfK (K : PySem.W.Frag) : List V → Hp → VK → Prop := fun xs H Q => ∃ p ys, xs = [.ref p] ∧ ((SqL K H p ys ∧ ∀ l, H l = none → Q (.ref l) (upd H l (.tup ys))) ∨ (SqT K H p ys ∧ Q (.ref p) H))
theorem call_tuple_ofK (h : X.K = K) : CallR X (.type "tuple") (rTupOfK K) := by
  subst h
  exact call_tuple_of
def rListOfK (K : PySem.W.Frag) : List V → Hp → VK → Prop := fun xs H Q => ∃ p ys, xs = [.ref p] ∧ (SqL K H p ys ∨ SqT K H p ys) ∧ ∀ l, H l = none → Q (.ref l) (upd H l (.lst ys))
theorem call_list_ofK (h : X.K = K) : CallR X (.type "list") (rListOfK K) := by
  subst h
  exact call_list_of
end
end L2

set_option Elab.async false
set_option maxRecDepth 100000
set_option maxHeartbeats 4000000
/-! list(zip(a, b)) of two lists -/
namespace PySem
theorem zip_no_len : typeLookup (Value.type "zip") (Str.ofString "__len__") = pure none := am_miss_of_fast (by decide +kernel)
theorem zip_no_hint : typeLookup (Value.type "zip") (Str.ofString "__length_hint__") = pure none := am_miss_of_fast (by decide +kernel)
/-- what has been given out -/
structure ZGiven (h : Heap) (lo : Addr) (acc : Array Value) (xs ys : Array Value) (i : Nat) (as : List Addr) : Prop where
  acc : acc.toList = as.map Value.ref
  len : as.length = i
  rise : List.Pairwise (· < ·) as
  above : ∀ a ∈ as, lo < a
  below : ∀ a ∈ as, a < h.objs.size
  pairs : ∀ (j : Nat) (a : Addr), as[j]? = some a → ∃ x y, xs[j]? = some x ∧ ys[j]? = some y ∧ IsPair h a x y
/-- how the zip stands -/
structure ZSt (h : Heap) (z TI TO i1 i2 l1 l2 : Addr) (xs ys : Array Value) (i : Nat) : Prop where
  first : i = 0 → ∃ a b, IsZip h z TI TO .none ∧ IsPair h TO a b
  later : 0 < i → ∃ T f x y, IsZipHeld h z TI TO T f ∧ IsPair h T x y
  ti : IsPair h TI (.ref i1) (.ref i2)
  it1 : h.IsListIter i1 l1 i
  it2 : h.IsListIter i2 l2 i
  li1 : h.IsList l1 xs
  li2 : h.IsList l2 ys
structure ZOff (S z TI TO i1 i2 l1 l2 : Addr) : Prop where
  z : S ≠ z
  ti : S ≠ TI
  to : S ≠ TO
  i1 : S ≠ i1
  i2 : S ≠ i2
  l1 : S ≠ l1
  l2 : S ≠ l2
section
variable {prog : Program} {w : World} {A : Around} {z TI TO i1 i2 l1 l2 S lo : Addr} {xs ys : Array Value} {i : Nat} {h h' : Heap}
theorem ZGiven.next {acc : Array Value} {as : List Addr} {T : Addr} {x y : Value} (g : ZGiven h lo acc xs ys i as) (hT : T = h.objs.size) (hlo : lo < T) (hsz : h'.objs.size = h.objs.size + 1) (hx : xs[i]? = some x) (hy : ys[i]? = some y) (hp : IsPair h' T x y)
    (hk : ∀ a ∈ as, ∀ x y, IsPair h a x y → IsPair h' a x y) : ZGiven h' lo (acc.push (.ref T)) xs ys (i + 1) (as ++ [T]) where
  acc := by rw [Array.toList_push, g.acc, List.map_append]; rfl
  len := by rw [List.length_append, g.len]; rfl
  rise := by
    rw [List.pairwise_append]
    refine ⟨g.rise, List.pairwise_singleton _ _, fun a ha b hb => ?_⟩
    rw [List.mem_singleton.mp hb, hT]
    exact g.below a ha
  above := fun a ha => by
    rcases List.mem_append.mp ha with ha | ha
    · exact g.above a ha
    · rw [List.mem_singleton.mp ha]
      exact hlo
  below := fun a ha => by
    rw [hsz]
    rcases List.mem_append.mp ha with ha | ha
    · exact Nat.lt_succ_of_lt (g.below a ha)
    · rw [List.mem_singleton.mp ha, hT]
      exact Nat.lt_succ_self _
  pairs := fun j a hj => by
    by_cases e : j < as.length
    · rw [List.getElem?_append_left e] at hj
      obtain ⟨x', y', h1, h2, h3⟩ := g.pairs j a hj
      exact ⟨x', y', h1, h2, hk a (List.mem_of_getElem? hj) _ _ h3⟩
    · have hl := (List.getElem?_eq_some_iff.mp hj).1
      rw [List.length_append] at hl
      have hl1 : [T].length = 1 := rfl
      have ej : j = as.length := by omega
      rw [List.getElem?_append_right (by omega), ej, Nat.sub_self] at hj
      cases hj
      rw [ej, g.len]
      exact ⟨x, y, hx, hy, hp⟩
theorem ZGiven.upd {acc : Array Value} {as : List Addr} {f : Obj → Obj} {oS : Obj} (g : ZGiven h lo acc xs ys i as) (hS : h.get? S = some oS) (hc : oS.cls = .type "list") : ZGiven (h.update S f) lo acc xs ys i as where
  acc := g.acc
  len := g.len
  rise := g.rise
  above := g.above
  below := fun a ha => by rw [Heap.size_update]; exact g.below a ha
  pairs := fun j a hj => by
    obtain ⟨x, y, h1, h2, h3⟩ := g.pairs j a hj
    refine ⟨x, y, h1, h2, ?_⟩
    have ne : S ≠ a := fun e => by
      subst e
      have h4 : h.get? S = some _ := h3
      rw [hS] at h4
      cases h4
      exact absurd (show Value.type "tuple" = Value.type "list" from hc) (by decide)
    show (h.update S f).get? a = _
    rw [Heap.get?_update_other h f ne]
    exact h3
theorem ZSt.upd {f : Obj → Obj} (s : ZSt h z TI TO i1 i2 l1 l2 xs ys i) (o : ZOff S z TI TO i1 i2 l1 l2) {oS : Obj} (hS : h.get? S = some oS) (hc : oS.cls = .type "list") : ZSt (h.update S f) z TI TO i1 i2 l1 l2 xs ys i where
  first := fun e => by
    obtain ⟨a, b, h1, h2⟩ := s.first e
    exact ⟨a, b, (Heap.get?_update_other h f o.z).trans h1, (Heap.get?_update_other h f o.to).trans h2⟩
  later := fun e => by
    obtain ⟨T, b, x, y, h1, h2⟩ := s.later e
    have ne : S ≠ T := fun e => by
      subst e
      have h4 : h.get? S = some _ := h2
      rw [hS] at h4
      cases h4
      exact absurd (show Value.type "tuple" = Value.type "list" from hc) (by decide)
    exact ⟨T, b, x, y, (Heap.get?_update_other h f o.z).trans h1, (Heap.get?_update_other h f ne).trans h2⟩
  ti := (Heap.get?_update_other h f o.ti).trans s.ti
  it1 := by
    obtain ⟨q, h1, h2⟩ := s.it1
    exact ⟨q, (Heap.get?_update_other h f o.i1).trans h1, h2⟩
  it2 := by
    obtain ⟨q, h1, h2⟩ := s.it2
    exact ⟨q, (Heap.get?_update_other h f o.i2).trans h1, h2⟩
  li1 := by
    obtain ⟨q, h1, h2⟩ := s.li1
    exact ⟨q, (Heap.get?_update_other h f o.l1).trans h1, h2⟩
  li2 := by
    obtain ⟨q, h1, h2⟩ := s.li2
    exact ⟨q, (Heap.get?_update_other h f o.l2).trans h1, h2⟩
theorem zip_loop (hh : A.in1.handled = none) (D : ZipApart z TI TO i1 i2 l1 l2) (o : ZOff S z TI TO i1 i2 l1 l2) (res : Value) {n : Nat} (hn : n = min xs.size ys.size) (hz : n + 1 ≤ sizeLine) {g : Array GenState} {d : _} {tk : Nat} {os : _} {R : Result → Shared → Prop} :
    ∀ (k i : Nat) (h : Heap) (acc : Array Value) (c : Nat) (as : List Addr), n - i = k → i ≤ n → ZSt h z TI TO i1 i2 l1 l2 xs ys i → h.get? S = some { cls := .type "list", data := .seq acc c } → lo < h.objs.size → ZGiven h lo acc xs ys i as →
      (∀ (h' : Heap) (acc' : Array Value) (c' : Nat) (as' : List Addr), (∀ b ob, b ≠ S → b ≠ z → b ≠ TO → b ≠ i1 → b ≠ i2 → h.get? b = some ob → h'.get? b = some ob) → h'.get? S = some { cls := .type "list", data := .seq acc' c' } → ZGiven h' lo acc' xs ys n as' → R (.ok (.ret res)) ⟨h', g, d, tk, os⟩) →
      codeAny (model prog w) A (.builtin "list.extend.loop" ⟨[.ref S, .ref z, res], []⟩) R ⟨h, g, d, tk, os⟩ := by
  intro k
  induction k with
  | zero =>
    intro i h acc c as hk hi st hS hlo gv hR
    have ei : i = n := by omega
    subst ei
    refine codeAny_builtin F.entry_extend_loop ?_
    rw [Around.under_plainId F.plain_extend_loop]
    refine wpAny_bind ?_
    have hend : xs[i]? = none ∨ ys[i]? = none := by
      rcases Nat.le_total xs.size ys.size with e | e
      · left
        exact Array.getElem?_eq_none (by omega)
      · right
        exact Array.getElem?_eq_none (by omega)
    by_cases h0 : i = 0
    · obtain ⟨a, b, hz1, hto⟩ := st.first h0
      refine wpAny_pyNext_zip_end hh D hz1 st.ti hto st.it1 st.it2 st.li1 st.li2 hend fun h' hk' => ?_
      refine wpAny_pure (hR h' acc c as (fun b ob b1 b2 b3 b4 b5 e => hk' b ob b2 b3 b4 b5 e) (hk' S _ o.z o.to o.i1 o.i2 hS) ?_)
      have has : as = [] := List.eq_nil_of_length_eq_zero (gv.len.trans h0)
      subst has
      exact ⟨gv.acc, gv.len, gv.rise, gv.above, (fun a ha => by cases ha), fun j a hj => by cases hj⟩
    · obtain ⟨T, f, tx, ty, hz1, hT⟩ := st.later (by omega)
      refine wpAny_pyNext_zip_end_held hh D hz1 hT st.ti st.it1 st.it2 st.li1 st.li2 hend fun h' hk' => ?_
      refine wpAny_pure (hR h' acc c as (fun b ob b1 b2 b3 b4 b5 e => hk' b ob b2 b4 b5 e) (hk' S _ o.z o.i1 o.i2 hS) ?_)
      have keep : ∀ a ∈ as, ∀ x y, IsPair h a x y → IsPair h' a x y := fun a ha x y hp => by
        refine hk' a _ (fun e => ?_) (fun e => ?_) (fun e => ?_) hp
        · subst e
          have q : h.get? a = some _ := hp
          rw [show h.get? a = some _ from hz1] at q
          injection q with q
          injection q with q
          exact absurd q (by decide)
        · subst e
          obtain ⟨ob, q1, q2, _⟩ := st.it1
          rw [show h.get? a = some _ from hp] at q1
          cases q1
          exact absurd (show Value.type "tuple" = Value.type "list_iterator" from q2) (by decide)
        · subst e
          obtain ⟨ob, q1, q2, _⟩ := st.it2
          rw [show h.get? a = some _ from hp] at q1
          cases q1
          exact absurd (show Value.type "tuple" = Value.type "list_iterator" from q2) (by decide)
      refine ⟨gv.acc, gv.len, gv.rise, gv.above, fun a ha => ?_, fun j a hj => ?_⟩
      · obtain ⟨j, hj⟩ := List.getElem?_of_mem ha
        obtain ⟨x, y, _, _, hp⟩ := gv.pairs j a hj
        exact Heap.lt_size (keep a ha _ _ hp)
      · obtain ⟨x, y, h1, h2, hp⟩ := gv.pairs j a hj
        exact ⟨x, y, h1, h2, keep a (List.mem_of_getElem? hj) _ _ hp⟩
  | succ k ih =>
    intro i h acc c as hk hi st hS hlo gv hR
    refine codeAny_builtin F.entry_extend_loop ?_
    rw [Around.under_plainId F.plain_extend_loop]
    refine wpAny_bind ?_
    obtain ⟨x, hx⟩ : ∃ x, xs[i]? = some x := ⟨_, Array.getElem?_eq_getElem (by omega)⟩
    obtain ⟨y, hy⟩ : ∃ y, ys[i]? = some y := ⟨_, Array.getElem?_eq_getElem (by omega)⟩
    have step : ∀ h' : Heap, ZSt h' z TI TO i1 i2 l1 l2 xs ys (i + 1) → IsPair h' h.objs.size x y → h'.objs.size = h.objs.size + 1 → (∀ b ob, b ≠ z → b ≠ TO → b ≠ i1 → b ≠ i2 → h.get? b = some ob → h'.get? b = some ob) → (∀ a ∈ as, ∀ x y, IsPair h a x y → IsPair h' a x y) →
        wpAny (model prog w) A.in1 (do
          Builtin.List.listUpdate (Value.ref S) fun q => q.push (.ref h.objs.size)
          again (Code.builtin "list.extend.loop" ⟨[.ref S, .ref z, res], []⟩)) (fun fin s' => match fin with
          | Fin.done f => R (Except.ok f) s'
          | Fin.again c' => c'.quiet = true ∧ codeAny (model prog w) A c' R s') (fun e s' => R (Except.error e) s') ⟨h', g, d, tk, os⟩ := fun h' st' hp hsz hk' hkp => by
      have hS' : h'.get? S = some { cls := .type "list", data := .seq acc c } := hk' S _ o.z o.to o.i1 o.i2 hS
      have hal : acc.size = i := by
        have e1 := congrArg List.length gv.acc
        rw [List.length_map, gv.len, Array.length_toList] at e1
        exact e1
      refine wpAny_bind (wpAny_updateSeq hS' rfl (wpAny_pure ⟨plainId_quiet F.plain_extend_loop _, ?_⟩) (by omega) (by rw [Array.size_push]; omega))
      have gv' := gv.next (h' := h') rfl hlo hsz hx hy hp hkp
      refine ih (i + 1) (h'.update S (Obj.mapSeq fun q => q.push (.ref h.objs.size))) (acc.push (.ref h.objs.size)) _ (as ++ [h.objs.size]) (by omega) (by omega) (st'.upd o hS' rfl) (Heap.get?_update_self (Obj.mapSeq fun q => q.push (.ref h.objs.size)) hS' rfl) ?_ (gv'.upd hS' rfl) fun h2 acc2 c2 as2 e1 e2 e3 => ?_
      · rw [Heap.size_update, hsz]
        exact Nat.lt_succ_of_lt hlo
      · exact hR h2 acc2 c2 as2 (fun b ob b1 b2 b3 b4 b5 e => e1 b ob b1 b2 b3 b4 b5 ((Heap.get?_update_other h' _ (Ne.symm b1)).trans (hk' b ob b2 b3 b4 b5 e))) e2 e3
    by_cases h0 : i = 0
    · obtain ⟨a, b, hz1, hto⟩ := st.first h0
      have has : as = [] := List.eq_nil_of_length_eq_zero (gv.len.trans h0)
      refine wpAny_pyNext_zip_item D hz1 st.ti hto st.it1 st.it2 st.li1 st.li2 hx hy fun h' a1 a2 a3 a4 a5 a6 a7 => step h' ⟨fun e => absurd e (Nat.succ_ne_zero _), fun _ => ⟨h.objs.size, false, x, y, a1, a5⟩, a7 TI _ D.TIz D.TITO D.TIi1 D.TIi2 st.ti, a3, a4, ?_, ?_⟩ a5 a6 a7 fun a ha => by rw [has] at ha; cases ha
      · obtain ⟨q, h1, h2⟩ := st.li1
        exact ⟨q, a7 l1 q D.l1z D.l1TO D.l1i1 D.l1i2 h1, h2⟩
      · obtain ⟨q, h1, h2⟩ := st.li2
        exact ⟨q, a7 l2 q D.l2z D.l2TO D.l2i1 D.l2i2 h1, h2⟩
    · obtain ⟨T, f, tx, ty, hz1, hT⟩ := st.later (by omega)
      have kp : ∀ (h' : Heap), (∀ b ob, b ≠ z → b ≠ i1 → b ≠ i2 → h.get? b = some ob → h'.get? b = some ob) → ∀ a x y, IsPair h a x y → IsPair h' a x y := fun h' a7 a x y hp => by
        refine a7 a _ (fun e => ?_) (fun e => ?_) (fun e => ?_) hp
        · subst e
          have q : h.get? a = some _ := hp
          rw [show h.get? a = some _ from hz1] at q
          injection q with q
          injection q with q
          exact absurd q (by decide)
        · subst e
          obtain ⟨ob, q1, q2, _⟩ := st.it1
          rw [show h.get? a = some _ from hp] at q1
          cases q1
          exact absurd (show Value.type "tuple" = Value.type "list_iterator" from q2) (by decide)
        · subst e
          obtain ⟨ob, q1, q2, _⟩ := st.it2
          rw [show h.get? a = some _ from hp] at q1
          cases q1
          exact absurd (show Value.type "tuple" = Value.type "list_iterator" from q2) (by decide)
      refine wpAny_pyNext_zip_item_held D hz1 hT st.ti st.it1 st.it2 st.li1 st.li2 hx hy fun h' a1 a3 a4 a5 a6 a7 => step h' ⟨fun e => absurd e (Nat.succ_ne_zero _), fun _ => ⟨T, true, tx, ty, a1, kp h' a7 T tx ty hT⟩, a7 TI _ D.TIz D.TIi1 D.TIi2 st.ti, a3, a4, ?_, ?_⟩ a5 a6 (fun b ob b1 b2 b3 b4 e => a7 b ob b1 b3 b4 e) fun a ha x y hp => kp h' a7 a x y hp
      · obtain ⟨q, h1, h2⟩ := st.li1
        exact ⟨q, a7 l1 q D.l1z D.l1i1 D.l1i2 h1, h2⟩
      · obtain ⟨q, h1, h2⟩ := st.li2
        exact ⟨q, a7 l2 q D.l2z D.l2i1 D.l2i2 h1, h2⟩
theorem list_init_zip (hh : A.in1.handled = none) (D : ZipApart z TI TO i1 i2 l1 l2) (o : ZOff S z TI TO i1 i2 l1 l2) {n : Nat} (hn : n = min xs.size ys.size) (hz : n + 1 ≤ sizeLine) {g : Array GenState} {d : _} {tk : Nat} {os : _} {R : Result → Shared → Prop}
    (st : ZSt h z TI TO i1 i2 l1 l2 xs ys 0) (hS : h.get? S = some { cls := .type "list", data := .seq #[] }) (hlo : lo < h.objs.size)
    (hR : ∀ (h' : Heap) (acc' : Array Value) (c' : Nat) (as' : List Addr), (∀ b ob, b ≠ S → b ≠ z → b ≠ TO → b ≠ i1 → b ≠ i2 → h.get? b = some ob → h'.get? b = some ob) → h'.get? S = some { cls := .type "list", data := .seq acc' c' } → ZGiven h' lo acc' xs ys n as' → R (.ok (.ret .none)) ⟨h', g, d, tk, os⟩) :
    wpAny (model prog w) A.in1 (Builtin.«list.__init__» ⟨[.ref S, .ref z], []⟩) (fun fin s' => match fin with
      | Fin.done f => R (Except.ok f) s'
      | Fin.again c' => c'.quiet = true ∧ codeAny (model prog w) A c' R s') (fun e s' => R (Except.error e) s') ⟨h, g, d, tk, os⟩ := by
  refine wpAny_bind ?_
  unfold Builtin.List.listItems
  refine wpAny_bind (wpAny_seqItems hS rfl (wpAny_pure ?_))
  refine wpAny_bind (wpAny_updateSeq hS rfl ?_)
  refine wpAny_bind (wpAny_letGo ?_)
  obtain ⟨a0, b0, hz0, hto0⟩ := st.first rfl
  have hS1 := Heap.get?_update_self (h := h) (Obj.mapSeq fun _ => #[]) hS rfl
  have st1 := st.upd (f := Obj.mapSeq fun _ => #[]) o hS rfl
  have sz1 : (h.update S (Obj.mapSeq fun _ => #[])).objs.size = h.objs.size := Heap.size_update _ _ _
  have off1 : ∀ b ob, b ≠ S → h.get? b = some ob → (h.update S (Obj.mapSeq fun _ => #[])).get? b = some ob := fun b ob hb e => (Heap.get?_update_other h _ (Ne.symm hb)).trans e
  generalize h.update S (Obj.mapSeq fun _ => #[]) = h1 at hS1 st1 sz1 off1 ⊢
  have hz1 : h1.get? z = some _ := off1 z _ (Ne.symm o.z) hz0
  have hT : ∀ (h2 : Heap) (g2 : _) , h2.get? z = some { cls := Value.type "zip", data := Data.fields #[Value.none, Value.bool false, Value.bool false, Value.ref TI, Value.ref TO] } → (Shared.mk h2 g2 d tk os).TypeIs (.ref z) "zip" := fun h2 g2 e => ⟨_, e, rfl⟩
  refine wpAny_bind (wpAny_typeOf (hT h1 g hz1) ?_)
  have e1 : (Builtin.List.listSameRef (Value.ref S) (Value.ref z) || Value.type "zip" == Value.type "list" || Value.type "zip" == Value.type "tuple") = false := by
    have : Builtin.List.listSameRef (Value.ref S) (Value.ref z) = false := beq_eq_false_iff_ne.mpr o.z
    rw [this]
    rfl
  rw [e1, if_neg (by decide)]
  refine wpAny_bind (wpAny_pyIter_zip hz1 ?_)
  refine wpAny_bind (wpAny_holding ?_)
  refine wpAny_bind (wpAny_specialOf (hT h1 g hz1) zip_no_len ?_)
  refine wpAny_bind (wpAny_specialOf (hT h1 g hz1) zip_no_hint (wpAny_pure ?_))
  rw [if_pos (by rfl)]
  refine wpAny_bind (wpAny_rule ?_)
  refine wpAny_bind ?_
  unfold Builtin.List.listTouch
  refine wpAny_bind (wpAny_updateSeq hS1 rfl ?_)
  have hS2 := Heap.get?_update_self (h := h1) (Obj.mapSeq fun q => q.push Value.none) hS1 rfl
  have st2 := st1.upd (f := Obj.mapSeq fun q => q.push Value.none) o hS1 rfl
  have sz2 : (h1.update S (Obj.mapSeq fun q => q.push Value.none)).objs.size = h1.objs.size := Heap.size_update _ _ _
  have off2 : ∀ b ob, b ≠ S → h1.get? b = some ob → (h1.update S (Obj.mapSeq fun q => q.push Value.none)).get? b = some ob := fun b ob hb e => (Heap.get?_update_other h1 _ (Ne.symm hb)).trans e
  generalize h1.update S (Obj.mapSeq fun q => q.push Value.none) = h2 at hS2 st2 sz2 off2 ⊢
  refine wpAny_updateSeq hS2 rfl ?_
  have hS3 := Heap.get?_update_self (h := h2) (Obj.mapSeq fun q => q.pop) hS2 rfl
  have st3 := st2.upd (f := Obj.mapSeq fun q => q.pop) o hS2 rfl
  have sz3 : (h2.update S (Obj.mapSeq fun q => q.pop)).objs.size = h2.objs.size := Heap.size_update _ _ _
  have off3 : ∀ b ob, b ≠ S → h2.get? b = some ob → (h2.update S (Obj.mapSeq fun q => q.pop)).get? b = some ob := fun b ob hb e => (Heap.get?_update_other h2 _ (Ne.symm hb)).trans e
  refine wpAny_pure ⟨plainId_quiet F.plain_extend_loop _, ?_⟩
  refine zip_loop (lo := lo) hh D o .none hn hz n 0 (h2.update S (Obj.mapSeq fun q => q.pop)) #[] _ [] (Nat.sub_zero n) (Nat.zero_le n) st3 hS3 (by rw [sz3, sz2, sz1]; exact hlo) ⟨rfl, rfl, .nil, (fun _ h => nomatch h), (fun _ h => nomatch h), (fun _ _ h => by cases h)⟩ fun h' acc' c' as' k1 k2 k3 => ?_
  exact hR h' acc' c' as' (fun b ob b1 b2 b3 b4 b5 e => k1 b ob b1 b2 b3 b4 b5 (off3 b ob b1 (off2 b ob b1 (off1 b ob b1 e)))) k2 k3
/-- list(z), z a zip of two lists as it was made -/
theorem call_list_zip {E : Value → Shared → Prop} {Q : Value → Shared → Prop} (hh : A.in1.in1.handled = none) (D : ZipApart z TI TO i1 i2 l1 l2) {n : Nat} (hn : n = min xs.size ys.size) (hz : n + 1 ≤ sizeLine) {s : Shared} (st : ZSt s.heap z TI TO i1 i2 l1 l2 xs ys 0)
    (hQ : ∀ (h' : Heap) (acc' : Array Value) (c' : Nat) (as' : List Addr), (∀ b ob, b ≠ z → b ≠ TO → b ≠ i1 → b ≠ i2 → s.heap.get? b = some ob → h'.get? b = some ob) → h'.get? s.heap.objs.size = some { cls := .type "list", data := .seq acc' c' } → ZGiven h' s.heap.objs.size acc' xs ys n as' → Q (.ref s.heap.objs.size) { s with heap := h' }) :
    wpAny (model prog w) A (call (.type "list") [.ref z]) Q E s := by
  obtain ⟨h, g, d, tk, os⟩ := s
  obtain ⟨a0, b0, hz0, hto0⟩ := st.first rfl
  refine callType_codes F.called_list (F.typeCall_list_1 _) F.entry_list_init (code_list_new (.ref z) (Q₁ := fun v s' => v = .ref h.objs.size ∧ s' = ⟨h.push { cls := .type "list", data := .seq #[] }, g, d, tk, os⟩) ⟨rfl, rfl⟩) fun obj s₁ h₁ => ?_
  obtain ⟨rfl, rfl⟩ := h₁
  have hS := Heap.get?_push_size h (o := { cls := .type "list", data := .seq #[] }) rfl
  have kp : ∀ b ob, h.get? b = some ob → (h.push { cls := Value.type "list", data := Data.seq #[] }).get? b = some ob := fun b ob e => Heap.get?_push_of_some _ e
  have lt : ∀ {b : Addr} {ob : Obj}, h.get? b = some ob → h.objs.size ≠ b := fun e => Nat.ne_of_gt (Heap.lt_size e)
  have o : ZOff h.objs.size z TI TO i1 i2 l1 l2 := ⟨lt hz0, lt st.ti, lt hto0, (by obtain ⟨_, q, _⟩ := st.it1; exact lt q), (by obtain ⟨_, q, _⟩ := st.it2; exact lt q), (by obtain ⟨_, q, _⟩ := st.li1; exact lt q), (by obtain ⟨_, q, _⟩ := st.li2; exact lt q)⟩
  have st' : ZSt (h.push { cls := Value.type "list", data := Data.seq #[] }) z TI TO i1 i2 l1 l2 xs ys 0 := ⟨fun _ => ⟨a0, b0, kp _ _ hz0, kp _ _ hto0⟩, fun e => absurd e (Nat.lt_irrefl _), kp _ _ st.ti, (by obtain ⟨q, q1, q2⟩ := st.it1; exact ⟨q, kp _ _ q1, q2⟩), (by obtain ⟨q, q1, q2⟩ := st.it2; exact ⟨q, kp _ _ q1, q2⟩), (by obtain ⟨q, q1, q2⟩ := st.li1; exact ⟨q, kp _ _ q1, q2⟩), (by obtain ⟨q, q1, q2⟩ := st.li2; exact ⟨q, kp _ _ q1, q2⟩)⟩
  refine ⟨⟨_, hS, rfl⟩, F.args_list_init_2 _ _, list_init_zip (lo := h.objs.size) hh D o hn hz st' hS (by rw [Heap.size_push]; exact Nat.lt_succ_self _) fun h' acc' c' as' k1 k2 k3 => ⟨rfl, ?_⟩⟩
  exact hQ h' acc' c' as' (fun b ob b2 b3 b4 b5 e => k1 b ob (Ne.symm (lt e)) b2 b3 b4 b5 (kp b ob e)) k2 k3
end
end PySem

set_option Elab.async false
set_option maxRecDepth 100000
set_option maxHeartbeats 4000000
/-! tuple(range(a, b, c)), list(range(a, b, c)), list(zip(x, y)) as expressions -/
namespace L2
open PySem PySem.Spec PyProof.Rows
section
variable {X : Cx}
theorem vals3 {x y z : V} {us : List Value} (r : Vals [x, y, z] us) : ∃ u v w, us = [u, v, w] ∧ RelV x u ∧ RelV y v ∧ RelV z w := by
  cases r with
  | cons h1 r =>
    obtain ⟨v, w, rfl, h2, h3⟩ := vals2 r
    exact ⟨_, v, w, rfl, h1, h2, h3⟩
theorem pylong_no {x c : Int} (h : c.natAbs < 1073741824) : Builtin.divisionGoesByPylong x c = false := by
  unfold Builtin.divisionGoesByPylong
  have hd : ¬ (if (c == 0) = true then 0 else c.natAbs.log2 / 30 + 1) > 300 := by
    split
    · omega
    · rename_i h0
      have hc : c.natAbs ≠ 0 := fun e => h0 (by rw [Int.natAbs_eq_zero.mp e]; rfl)
      have : c.natAbs.log2 < 30 := (Nat.log2_lt hc).mpr (by simpa using h)
      omega
  dsimp only
  rw [decide_eq_false hd]
  rfl
theorem prg_3 {e : Expr} {es : List Expr} {ta : TA} {p pos : Pos} (hg : Gl X "range") (hm : X.mg "range" = none) (ha : PA X (e :: es) ta) (he : starEach (e :: es) X.env = (false, eval e X.env) :: starEach es X.env := by rfl) (hpl : (backTo pos (starEach es X.env)).any (·.1) = false := by rfl) :
    PRg3 X (.Call (.Name "range" p) (e :: es) [] pos) (tRg3 ta) := by
  intro pins s σ H Q I h
  refine PyProof.Rows.Call_ (ld_blt I hg hm (u := .type "range") (by rfl) (PyProof.Rows.callWith_type1 (thn (ha.run pos pins s σ H _ I h) fun us s1 ⟨vs, H1, I1, r1, q1⟩ => ?_) he hpl)) rfl
  obtain ⟨a, b, c, rfl, hc, ⟨h1, h2, h3, h4, h5⟩, q⟩ := q1
  obtain ⟨u, v, w, rfl, ⟨t1, rfl⟩, ⟨t2, rfl⟩, ⟨t3, rfl⟩⟩ := vals3 r1
  refine call_range_3 hc ⟨s1.heap.objs.size, a, b, c, t1, t2, t3, H1, rfl, Heap.get?_push_size _ rfl, ?_, q⟩ (.inl (pylong_no h5))
  exact I1.kept (t' := s1.toks) fun b o e => Heap.get?_push_of_some _ e
def rgC (a c : Int) (n : Nat) : List V := (List.range n).map fun (i : Nat) => .int (a + (i : Int) * c)
theorem vals_rgC {a c : Int} {n : Nat} {acc : Array Value} (h : ItemsOf (fun i v => ∃ t, v = Value.int (a + (i : Int) * c) t) acc n) : Vals (rgC a c n) acc.toList := by
  refine vals_of_at ?_ fun j x u hx hu => ?_
  · show (rgC a c n).length = acc.toList.length
    rw [show acc.toList.length = acc.size from rfl, h.1]
    simp [rgC]
  · have hj : j < n := by
      have := (List.getElem?_eq_some_iff.mp hx).1
      simpa [rgC] using this
    obtain ⟨t, rfl⟩ := h.2 j u (by rw [← Array.getElem?_toList]; exact hu)
    unfold rgC at hx
    rw [List.getElem?_map, List.getElem?_range hj] at hx
    cases hx
    exact ⟨t, rfl⟩
def tTupRg3 (te : St → Hp → (Int → Int → Int → Hp → Prop) → Prop) : TE := fun σ H Q => te σ H fun a b c H1 => ∃ n, RgC a b c n ∧ n ≤ 2 ^ 24 ∧ ∀ q, H1 q = none → Q (.ref q) (upd H1 q (.tup (rgC a c n)))
def tLstRg3 (te : St → Hp → (Int → Int → Int → Hp → Prop) → Prop) : TE := fun σ H Q => te σ H fun a b c H1 => ∃ n, RgC a b c n ∧ n ≤ 2 ^ 24 ∧ ∀ q, H1 q = none → Q (.ref q) (upd H1 q (.lst (rgC a c n)))
theorem pe_tupRg3 {e : Expr} {te : St → Hp → (Int → Int → Int → Hp → Prop) → Prop} {p pos : Pos} (hc : X.calm = true) (hg : Gl X "tuple") (hm : X.mg "tuple" = none) (he : PRg3 X e te) (hs : starEach [e] X.env = (false, eval e X.env) :: starEach [] X.env := by rfl) :
    PE X (.Call (.Name "tuple" p) [e] [] pos) (tTupRg3 te) := by
  refine ⟨fun pins s σ H Q I h => ?_⟩
  refine PyProof.Rows.Call_ (ld_blt I hg hm (u := .type "tuple") (by rfl) (PyProof.Rows.callWith_type1 ?_ hs rfl)) rfl
  rw [hs]
  refine Calls.spliced_cons (thn (he pins s σ H _ I h) fun x s1 ⟨r, a, b, c, t, u, v, H1, ex, hr, I1, n, hn, hz, q⟩ => Calls.spliced_nil ?_)
  subst ex
  obtain ⟨_, _, h3, h4⟩ := hn
  refine call_tuple_range (I1.ok.hd hc) hr h3 h4 hz fun h' tk acc hk hacc => ?_
  have I2 := I1.kept (t' := tk) hk
  have hzl : (rgC a c n).length ≤ sizeLine := by
    rw [show (rgC a c n).length = n by simp [rgC]]
    exact Nat.le_trans hz (by decide)
  refine ⟨.ref h'.objs.size, upd H1 h'.objs.size (.tup (rgC a c n)), I2.laid (t' := tk) (fun b o e => Heap.get?_push_of_some _ e) (Nat.le_refl _) ⟨hzl, acc.toList, vals_rgC hacc, ⟨_, Heap.get?_push_size _ rfl, rfl, _, rfl⟩⟩, rfl, q _ (I2.hok.fresh (Nat.le_refl _))⟩
theorem pe_listRg3 {e : Expr} {te : St → Hp → (Int → Int → Int → Hp → Prop) → Prop} {p pos : Pos} (hc : X.calm = true) (hg : Gl X "list") (hm : X.mg "list" = none) (he : PRg3 X e te) (hs : starEach [e] X.env = (false, eval e X.env) :: starEach [] X.env := by rfl) :
    PE X (.Call (.Name "list" p) [e] [] pos) (tLstRg3 te) := by
  refine ⟨fun pins s σ H Q I h => ?_⟩
  refine PyProof.Rows.Call_ (ld_blt I hg hm (u := .type "list") (by rfl) (PyProof.Rows.callWith_type1 ?_ hs rfl)) rfl
  rw [hs]
  refine Calls.spliced_cons (thn (he pins s σ H _ I h) fun x s1 ⟨r, a, b, c, t, u, v, H1, ex, hr, I1, n, hn, hz, q⟩ => Calls.spliced_nil ?_)
  subst ex
  obtain ⟨_, _, h3, h4⟩ := hn
  refine call_list_range (I1.ok.hd hc) hr h3 h4 hz fun h' tk acc c' hk hS hacc => ?_
  have hzl : (rgC a c n).length ≤ sizeLine := by
    rw [show (rgC a c n).length = n by simp [rgC]]
    exact Nat.le_trans hz (by decide)
  refine ⟨.ref s1.heap.objs.size, upd H1 s1.heap.objs.size (.lst (rgC a c n)), I1.laid (t' := tk) hk (Nat.le_refl _) ⟨hzl, acc.toList, c', vals_rgC hacc, hS⟩, rfl, q _ (I1.hok.fresh (Nat.le_refl _))⟩
/-! list(zip(x, y)), two lists of ints -/
theorem zipApart {n la lb : Nat} (h1 : la < n) (h2 : lb < n) : ZipApart (n + 4) (n + 2) (n + 3) n (n + 1) la lb where
  TIz := show (n + 2 : Nat) ≠ n + 4 by omega
  TOz := show (n + 3 : Nat) ≠ n + 4 by omega
  i1z := show (n : Nat) ≠ n + 4 by omega
  i2z := show (n + 1 : Nat) ≠ n + 4 by omega
  TITO := show (n + 2 : Nat) ≠ n + 3 by omega
  TIi1 := show (n + 2 : Nat) ≠ n by omega
  TIi2 := show (n + 2 : Nat) ≠ n + 1 by omega
  TOi1 := show (n + 3 : Nat) ≠ n by omega
  TOi2 := show (n + 3 : Nat) ≠ n + 1 by omega
  i12 := show (n : Nat) ≠ n + 1 by omega
  l1z := show (la : Nat) ≠ n + 4 by omega
  l1TO := show (la : Nat) ≠ n + 3 by omega
  l1i1 := show (la : Nat) ≠ n by omega
  l1i2 := show (la : Nat) ≠ n + 1 by omega
  l2z := show (lb : Nat) ≠ n + 4 by omega
  l2TO := show (lb : Nat) ≠ n + 3 by omega
  l2i1 := show (lb : Nat) ≠ n by omega
  l2i2 := show (lb : Nat) ≠ n + 1 by omega
theorem lt_off {n b : Nat} (h : b < n) : b ≠ n + 4 ∧ b ≠ n + 3 ∧ b ≠ n ∧ b ≠ n + 1 := ⟨by omega, by omega, by omega, by omega⟩
/-- the same heap with k places more, all of them free -/
theorem padded (h : Heap) : ∀ k : Nat, ∃ h2 : Heap, h2.objs.size = h.objs.size + k ∧ (∀ b o, h.get? b = some o → h2.get? b = some o) ∧ ∀ b o, h2.get? b = some o → h.get? b = some o
  | 0 => ⟨h, rfl, fun _ _ e => e, fun _ _ e => e⟩
  | k + 1 => by
    obtain ⟨h2, e1, e2, e3⟩ := padded h k
    refine ⟨h2.push { cls := .none, data := .freed }, by rw [Heap.size_push, e1]; rfl, fun b o e => Heap.get?_push_of_some _ (e2 b o e), fun b o e => e3 b o ?_⟩
    obtain ⟨objs, life⟩ := h2
    unfold Heap.push Heap.get? at e
    dsimp only at e
    rw [Array.getElem?_push] at e
    by_cases hb : b = objs.size
    · rw [if_pos hb] at e
      cases e
    · rw [if_neg hb] at e
      exact e
theorem paired_at {α β : Type} {R : α → β → Prop} : ∀ {as : List α} {qs : List β} {j : Nat} {t : α}, Paired R as qs → as[j]? = some t → ∃ q, qs[j]? = some q ∧ R t q
  | _ :: _, _ :: _, 0, _, .cons h _, e => by
    cases e
    exact ⟨_, rfl, h⟩
  | _ :: _, _ :: _, j + 1, _, .cons _ h, e => by
    obtain ⟨q, h1, h2⟩ := paired_at (j := j) h (by simpa using e)
    exact ⟨q, by simpa using h1, h2⟩
theorem kv_zip : ∀ (xs : List Int) (ys : List Int) (us : List Value), Vals (ys.map V.int) us → KV ((xs.zip ys).map fun p => ((Sum.inl p.1 : Key), V.int p.2)) ((xs.zip us).map fun p => ((Sum.inl p.1 : Key), p.2))
  | [], _, _, _ => .nil
  | _ :: _, [], [], _ => .nil
  | x :: xs, y :: ys, u :: us, .cons h1 h2 => .cons ⟨rfl, h1⟩ (kv_zip xs ys us h2)
def tLstZip (K : PySem.W.Frag) (t : TA) : TE := fun σ H Q => t σ H fun vs H1 => ∃ (la lb : Addr) (xs ys : List Int), vs = [.ref la, .ref lb] ∧ SqL K H1 la (xs.map V.int) ∧ SqL K H1 lb (ys.map V.int) ∧ xs.length = ys.length ∧ xs.length ≤ 1000000 ∧
  ∀ (D : Addr) (as : List Addr) (H2 : Hp), Ext H1 H2 → H2 D = some (.lst (as.map V.ref)) → as.length = xs.length → (∀ (j : Nat) (t : Addr), as[j]? = some t → ∃ x y, xs[j]? = some x ∧ ys[j]? = some y ∧ H2 t = some (.tup [.int x, .int y])) → Q (.ref D) H2
theorem pe_listZip {a : Expr} {es : List Expr} {ta : TA} {p pz zpos pos : Pos} (hc : X.calm = true) (hg : Gl X "list") (hm : X.mg "list" = none) (hg2 : Gl X "zip") (hm2 : X.mg "zip" = none) (ha : PA X (a :: es) ta)
    (hs : starEach [.Call (.Name "zip" pz) (a :: es) [] zpos] X.env = (false, eval (.Call (.Name "zip" pz) (a :: es) [] zpos) X.env) :: starEach [] X.env := by rfl) (he : starEach (a :: es) X.env = (false, eval a X.env) :: starEach es X.env := by rfl) (hpl : (backTo zpos (starEach es X.env)).any (·.1) = false := by rfl) :
    PE X (.Call (.Name "list" p) [.Call (.Name "zip" pz) (a :: es) [] zpos] [] pos) (tLstZip X.K ta) := by
  refine ⟨fun pins s σ H Q I h => ?_⟩
  refine PyProof.Rows.Call_ (ld_blt I hg hm (u := .type "list") (by rfl) (PyProof.Rows.callWith_type1 ?_ hs rfl)) rfl
  rw [hs]
  refine Calls.spliced_cons (PyProof.Rows.Call_ (ld_blt I hg2 hm2 (u := .type "zip") (by rfl) (PyProof.Rows.callWith_type1 (thn (ha.run zpos pins s σ H _ I h) fun us s1 ⟨vs, H1, I1, r1, q1⟩ => ?_) he hpl)) rfl)
  obtain ⟨la, lb, xs, ys, rfl, hxs, hys, hll, hz, q⟩ := q1
  obtain ⟨u1, u2, rfl, r1a, r1b⟩ := vals2 r1
  obtain rfl : u1 = Value.ref la := r1a
  obtain rfl : u2 = Value.ref lb := r1b
  obtain ⟨its1, rv1, pl1, _⟩ := I1.list hxs
  obtain ⟨its2, rv2, pl2, _⟩ := I1.list hys
  have hl1 : its1.length = xs.length := by rw [← rv1.length, List.length_map]
  have hl2 : its2.length = ys.length := by rw [← rv2.length, List.length_map]
  have lt1 : la < s1.heap.objs.size := by obtain ⟨o, _, e, _⟩ := pl1; exact Heap.lt_size e
  have lt2 : lb < s1.heap.objs.size := by obtain ⟨o, _, e, _⟩ := pl2; exact Heap.lt_size e
  refine call_zip_2 pl1.isList pl2.isList fun h2 z1 z2 z3 z4 z5 z6 z7 => Calls.spliced_nil ?_
  have I2 := I1.kept (t' := s1.toks) z7
  have D : ZipApart (s1.heap.objs.size + 4) (s1.heap.objs.size + 2) (s1.heap.objs.size + 3) s1.heap.objs.size (s1.heap.objs.size + 1) la lb := zipApart lt1 lt2
  have st : ZSt h2 (s1.heap.objs.size + 4) (s1.heap.objs.size + 2) (s1.heap.objs.size + 3) s1.heap.objs.size (s1.heap.objs.size + 1) la lb its1.toArray its2.toArray 0 := ⟨fun _ => ⟨_, _, z1, z3⟩, fun e => absurd e (Nat.lt_irrefl _), z2, z4, z5, (by obtain ⟨o, q1, q2⟩ := pl1.isList; exact ⟨o, z7 _ _ q1, q2⟩), (by obtain ⟨o, q1, q2⟩ := pl2.isList; exact ⟨o, z7 _ _ q1, q2⟩)⟩
  refine call_list_zip (n := xs.length) (s := { s1 with heap := h2 }) (I2.ok.hd hc) D (by simp; omega) (Nat.le_trans (Nat.succ_le_succ hz) (by decide)) st fun h3 acc c as k1 k2 k3 => ?_
  obtain ⟨hp, p1, p2, p3⟩ := padded s1.heap 5
  have I3 := I1.kept (h' := hp) (t' := s1.toks) p2
  have hk : ∀ b ob, hp.get? b = some ob → h3.get? b = some ob := fun b ob e => by
    have e1 := p3 b ob e
    obtain ⟨n1, n2, n3, n4⟩ := lt_off (Heap.lt_size e1)
    exact k1 b ob n1 n2 n3 n4 (z7 b ob e1)
  have hsz : hp.objs.size = h2.objs.size := by rw [p1, z6]
  have hG : W.KdxG (mixKind X.prog X.w) ((xs.zip its2).map fun p => ((Sum.inl p.1 : Key), p.2)) hp.objs.size h3 as := by
    rw [hsz]
    refine ⟨k3.rise, k3.above, fun j a hj => ?_⟩
    obtain ⟨x, y, hx, hy, hpair⟩ := k3.pairs j a hj
    have hx' : its1[j]? = some x := by simpa using hx
    have hy' : its2[j]? = some y := by simpa using hy
    obtain ⟨n, hn⟩ : ∃ n, xs[j]? = some n := ⟨_, List.getElem?_eq_getElem (by have := (List.getElem?_eq_some_iff.mp hx').1; omega)⟩
    obtain ⟨u, hu, ru⟩ := rv1.get (i := j) (x := .int n) (by rw [List.getElem?_map, hn]; rfl)
    rw [hx'] at hu
    cases hu
    obtain ⟨t, rfl⟩ := ru
    refine ⟨_, .inl n, y, ?_, ?_, hpair⟩
    · rw [List.getElem?_map, (List.getElem?_zip_eq_some (z := (n, y))).mpr ⟨hn, hy'⟩]
      rfl
    · show (n == n) = true
      exact beq_self_eq_true n
  have hal : as.length = ((xs.zip its2).map fun p => ((Sum.inl p.1 : Key), p.2)).length := by
    rw [k3.len, List.length_map, List.length_zip]
    omega
  obtain ⟨H3, e1, e2, e3, e4, e5, e6, I4⟩ := LiI.items_laid (kvs := (xs.zip ys).map fun p => ((Sum.inl p.1 : Key), V.int p.2)) (tk := s1.toks) (s := { s1 with heap := hp, toks := s1.toks }) I3 (by rw [List.length_map, List.length_zip]; exact Nat.le_trans (Nat.min_le_left _ _) (Nat.le_trans hz (by decide))) (kv_zip xs ys its2 rv2) hk (by rw [show ({ s1 with heap := hp, toks := s1.toks } : Shared).heap.objs.size = h2.objs.size from hsz]; exact k2) hal hG k3.acc
  refine ⟨.ref h2.objs.size, H3, I4, rfl, q h2.objs.size as H3 e1 ?_ k3.len fun j t hj => ?_⟩
  · rw [← hsz]
    exact e5
  · obtain ⟨q', h1, h2'⟩ := paired_at e6 hj
    rw [List.getElem?_map] at h1
    cases hz' : (xs.zip ys)[j]? with
    | none => rw [hz'] at h1; cases h1
    | some p =>
      rw [hz'] at h1
      cases h1
      obtain ⟨h3', h4'⟩ := List.getElem?_zip_eq_some.mp hz'
      exact ⟨p.1, p.2, h3', h4', h2'⟩
end
end L2

set_option Elab.async false
set_option maxRecDepth 100000
set_option maxHeartbeats 4000000
namespace L2
open PySem PySem.Spec PyProof.Rows
section
variable {X : Cx} {K : PySem.W.Frag}
theorem op_in_seqK (h : X.K = K) : OpR X (compareOp .In) (rIn K false) := by
  subst h
  exact op_in_seq
theorem op_notIn_seqK (h : X.K = K) : OpR X (compareOp .NotIn) (rIn K true) := by
  subst h
  exact op_notIn_seq
theorem inV_ints (a : Int) : ∀ ns : List Int, inV (.int a) (ns.map V.int) = decide (a ∈ ns)
  | [] => rfl
  | n :: ns => by
    have ih := inV_ints a ns
    unfold inV at ih ⊢
    rw [List.map_cons, List.any_cons, ih]
    have e : eqV (.int n) (.int a) = decide (n = a) := rfl
    rw [e, Bool.eq_iff_iff]
    simp
    constructor
    · rintro (e | e)
      · exact .inl e.symm
      · exact .inr e
    · rintro (e | e)
      · exact .inl e.symm
      · exact .inr e
theorem flat_ints {ns : List Int} : (ns.map V.int).all flatV = true := by
  rw [List.all_eq_true]
  intro v hv
  obtain ⟨n, _, rfl⟩ := List.mem_map.mp hv
  rfl
end
end L2

set_option Elab.async false
set_option maxRecDepth 100000
set_option maxHeartbeats 4000000
namespace L2
open PySem PySem.Spec PyProof.Rows
section
variable {X : Cx} {K : PySem.W.Frag} {a : Expr} {ta : TE}
/-- a truth test with K named, for what stands within a comprehension -/
def tTruK (K : PySem.W.Frag) (ta : TE) : TT := fun σ H Q => ta σ H fun x H' => ∃ k, TruV K x H' k ∧ Q k H'
theorem pt_truthK (h : X.K = K) (ha : PE X a ta) (he : ∀ whole, isTrue a X.env whole = (do let v ← whole; standAt a.pos; holding [v] (truthy v))) :
    PT X a (tTruK K ta) := by
  subst h
  exact pt_truth ha he
end
end L2

set_option Elab.async false
set_option maxRecDepth 100000
set_option maxHeartbeats 4000000
/-! for over a list or a tuple, one walk for both; the body only adds to the heap -/
namespace L2
open PySem PySem.Spec PyProof.Rows
section
variable {K : PySem.W.Frag} {a : Addr} {xs : List V}
theorem for_sq {g : TG} {tb : TS} {D : Ends} {σ : St} {H : Hp} (hx : SqL K H a xs ∨ SqT K H a xs) (Pv : Nat → St → Hp → Prop) (h0 : Pv 0 σ H) (hE : ∀ i σ' H', Pv i σ' H' → Ext H H')
    (hs : ∀ i x σ' H', xs[i]? = some x → Pv i σ' H' → g x σ' H' fun σ2 H2 => tb { D with nx := Pv (i + 1), ct := Pv (i + 1), bk := D.nx } σ2 H2) (hd : ∀ σ' H', Pv xs.length σ' H' → D.nx σ' H') :
    ((∃ xs, SqL K H a xs) ∧ turnsOf g tb D σ (Itl K a) H) ∨ ((∃ xs, SqT K H a xs) ∧ turnsOf g tb D σ (Itt K a) H) := by
  have step : ∀ i x σ' H' H'', i < xs.length → Pv i σ' H' → YAt xs i H' x H'' → g x σ' H'' fun σ2 H2 => tb { D with nx := Pv (i + 1), ct := Pv (i + 1), bk := D.nx } σ2 H2 := by
    rintro i x σ' H' H'' _ pv ⟨rfl, hx'⟩
    exact hs i x σ' H'' hx' pv
  rcases hx with hx | hx
  · exact .inl ⟨⟨xs, hx⟩, for_it (walk_list (xs := xs)) Pv h0 (fun i σ' H' _ pv => hx.ext (hE i σ' H' pv)) step hd⟩
  · exact .inr ⟨⟨xs, hx⟩, for_it (walk_tup (xs := xs)) Pv h0 (fun i σ' H' _ pv => hx.ext (hE i σ' H' pv)) step hd⟩
end
end L2

set_option Elab.async false
set_option maxRecDepth 100000
set_option maxHeartbeats 4000000
/-! a tuple whose object is known: its methods may be called -/
namespace L2
open PySem PySem.Spec PyProof.Rows
def FrzT (H : Hp) (a : Addr) (ts : List V) : Prop := ∃ o, H a = some (.frz o (.tup ts)) ∧ o.dict = none
theorem FrzT.sqT {K : PySem.W.Frag} {H : Hp} {a : Addr} {ts : List V} (h : FrzT H a ts) : SqT K H a ts := by
  obtain ⟨o, h, _⟩ := h
  exact .inl (.inr ⟨o, h⟩)
theorem FrzT.ext {H H' : Hp} {a : Addr} {ts : List V} (h : FrzT H a ts) (e : Ext H H') : FrzT H' a ts := by
  obtain ⟨o, h, d⟩ := h
  exact ⟨o, e _ _ h, d⟩
def rTupFrz (K : PySem.W.Frag) : List V → Hp → VK → Prop := fun xs H Q => ∃ p ys, xs = [.ref p] ∧ SqL K H p ys ∧ ∀ l o, H l = none → o.dict = none → Q (.ref l) (upd H l (.frz o (.tup ys)))
section
variable {X : Cx}
theorem call_tuple_frz : CallR X (.type "tuple") (rTupFrz X.K) := by
  intro pins s σ H xs us Q I r h
  obtain ⟨p, ys, rfl, hq, q⟩ := h
  obtain ⟨u, rfl, rx⟩ := vals1 r
  cases rx
  obtain ⟨its, r', pl, hz⟩ := I.list hq
  have hlen := r'.length
  refine call_tuple_list pl.isList (fun h' kp => ?_) (by simp only [List.size_toArray] <;> omega)
  have I1 : Inv X pins σ H { s with heap := h' } := I.kept (t' := s.toks) kp
  have I2 : Inv X pins σ (upd H h'.objs.size (.frz { cls := .type "tuple", data := .seq its.toArray } (.tup ys))) { s with heap := h'.push { cls := .type "tuple", data := .seq its.toArray } } :=
    I1.laid (t' := s.toks) (fun b o e => Heap.get?_push_of_some _ e) (Nat.le_refl _) (show ObjOk X.prog X.w _ _ _ (.frz _ (.tup ys)) from ⟨Heap.get?_push_size _ rfl, hz, its, r', IsTup.new _ _⟩)
  exact ⟨.ref h'.objs.size, _, I2, rfl, q _ _ (I1.hok.fresh (Nat.le_refl _)) rfl⟩
def tTM (r : V → List V → Hp → VK → Prop) (to : TE) (t : TA) : TE := fun σ H Q => to σ H fun x H1 => ∃ a ts, x = .ref a ∧ FrzT H1 a ts ∧ t σ H1 fun xs H2 => r x xs H2 Q
variable {o e : Expr} {es : List Expr} {to : TE} {t : TA} {name : Str} {apos cpos : Pos} {id : String} {r : V → List V → Hp → VK → Prop}
theorem pe_tm (slot : Slot "tuple" name id) (hty : typeOf (.builtin id) = pure (.type "method_descriptor")) (hm : MtR X id r) (ho : PE X o to) (ha : PA X (e :: es) t)
    (hbase : attributeBase o name X.env (eval o X.env) = eval o X.env := by rfl)
    (hfew : ((backTo cpos (starEach (e :: es) X.env)).all (fun x => !x.1) && (backToKw cpos (keywordEach [] X.env)).all (fun x => x.1.isSome)
      && decide ((e :: es).length + ([] : List Keyword).length + (if ([] : List Keyword).isEmpty then 0 else 1) < 30)) = true := by rfl)
    (hline : (apos.endLine == cpos.line) = true := by rfl) (hs : starEach (e :: es) X.env = (false, eval e X.env) :: starEach es X.env := by rfl) (hplain : (backTo cpos (starEach es X.env)).any (·.1) = false := by rfl) :
    PE X (.Call (.Attribute o name apos) (e :: es) [] cpos) (tTM r to t) := by
  refine ⟨fun pins s σ H Q I h => ?_⟩
  refine wpAny_Call_method_late hbase hfew hline rfl (thn (ho.run pins s σ H _ I h) fun v s1 ⟨x, H1, I1, r1, a, ts, ex, hf, q1⟩ => ?_)
  subst ex
  obtain ⟨ob, hf, hd⟩ := hf
  obtain ⟨h0, _, its, _, ⟨ob', h0', hc, _⟩⟩ := I1.hok a _ hf
  rw [h0] at h0'
  cases h0'
  cases (show v = Value.ref a from r1)
  refine ⟨"tuple", id, PySem.F.plainAttrs_tuple, slot, hty, ⟨ob, h0, hc⟩, fun b eb => by cases eb; exact ⟨ob, h0, hd⟩, ?_⟩
  have hA := ha.run cpos pins s1 σ H1 _ I1 q1
  rw [hs] at hA ⊢
  refine Calls.callWith_builtin (by show (false || (backTo cpos (starEach es X.env)).any (·.1)) = false; rw [hplain] <;> rfl) (Calls.evalArgs_plain ?_)
  exact thn hA fun us s2 ⟨vs, H2, I2, r2, q2⟩ => hm pins s2 σ H2 (.ref a) vs (.ref a) us Q I2 rfl r2 q2
end
theorem sl_listK {X : Cx} {K : PySem.W.Frag} (h : X.K = K) : SlR X (rSlL K) := by
  subst h
  exact sl_list
section
variable {K : PySem.W.Frag} {a : Addr} {xs : List V}
/-- for over a list or a tuple that the body leaves, though it writes elsewhere -/
theorem for_sqM {g : TG} {tb : TS} {D : Ends} {σ : St} {H0 H : Hp} (hx : SqL K H0 a xs ∨ SqT K H0 a xs) (Pv : Nat → St → Hp → Prop) (h0 : Pv 0 σ H) (hE : ∀ i σ' H', Pv i σ' H' → Ext H0 H')
    (hs : ∀ i x σ' H', xs[i]? = some x → Pv i σ' H' → g x σ' H' fun σ2 H2 => tb { D with nx := Pv (i + 1), ct := Pv (i + 1), bk := D.nx } σ2 H2) (hd : ∀ σ' H', Pv xs.length σ' H' → D.nx σ' H') :
    ((∃ xs, SqL K H a xs) ∧ turnsOf g tb D σ (Itl K a) H) ∨ ((∃ xs, SqT K H a xs) ∧ turnsOf g tb D σ (Itt K a) H) := by
  have step : ∀ i x σ' H' H'', i < xs.length → Pv i σ' H' → YAt xs i H' x H'' → g x σ' H'' fun σ2 H2 => tb { D with nx := Pv (i + 1), ct := Pv (i + 1), bk := D.nx } σ2 H2 := by
    rintro i x σ' H' H'' _ pv ⟨rfl, hx'⟩
    exact hs i x σ' H'' hx' pv
  have e0 := hE 0 _ _ h0
  rcases hx with hx | hx
  · exact .inl ⟨⟨xs, hx.ext e0⟩, for_it (walk_list (xs := xs)) Pv h0 (fun i σ' H' _ pv => hx.ext (hE i σ' H' pv)) step hd⟩
  · exact .inr ⟨⟨xs, hx.ext e0⟩, for_it (walk_tup (xs := xs)) Pv h0 (fun i σ' H' _ pv => hx.ext (hE i σ' H' pv)) step hd⟩
/-- for i, x in enumerate(e), the body leaving e, though it writes elsewhere -/
theorem for_enSqM {g : TG} {tb : TS} {D : Ends} {σ : St} {H0 H : Hp} (hx : SqL K H0 a xs ∨ SqT K H0 a xs) (Pv : Nat → St → Hp → Prop) (h0 : Pv 0 σ H) (hE : ∀ i σ' H', Pv i σ' H' → Ext H0 H')
    (hs : ∀ i x σ' H' T, xs[i]? = some x → Pv i σ' H' → H' T = none → g (.ref T) σ' (upd H' T (.tup [.int (i : Nat), x])) fun σ2 H2 => tb { D with nx := Pv (i + 1), ct := Pv (i + 1), bk := D.nx } σ2 H2) (hd : ∀ σ' H', Pv xs.length σ' H' → D.nx σ' H') :
    ((∃ xs, SqL K H a xs) ∧ turnsOf g tb D σ (Ite K a) H) ∨ ((∃ xs, SqT K H a xs) ∧ turnsOf g tb D σ (Itet K a) H) := by
  have step : ∀ i x σ' H' H'', i < xs.length → Pv i σ' H' → YPair (fun i => some (V.int (i : Nat))) (fun i => xs[i]?) i H' x H'' → g x σ' H'' fun σ2 H2 => tb { D with nx := Pv (i + 1), ct := Pv (i + 1), bk := D.nx } σ2 H2 := by
    rintro i v σ' H' H'' hi pv ⟨T, x, y, rfl, hT, rfl, hx', hy⟩
    cases hx'
    exact hs i y σ' H' T hy pv hT
  have e0 := hE 0 _ _ h0
  rcases hx with hx | hx
  · exact .inl ⟨⟨xs, hx.ext e0⟩, for_it (walk_enum (xs := xs)) Pv h0 (fun i σ' H' _ pv => hx.ext (hE i σ' H' pv)) step hd⟩
  · exact .inr ⟨⟨xs, hx.ext e0⟩, for_it (walk_enT (xs := xs)) Pv h0 (fun i σ' H' _ pv => hx.ext (hE i σ' H' pv)) step hd⟩
end
end L2

set_option Elab.async false
set_option maxRecDepth 100000
set_option maxHeartbeats 4000000
/-! data beside instances within a tuple -/
namespace L2
open PySem PySem.Spec PyProof.Rows
section
variable {X : Cx}
variable {n : Nat}
/-- two things of data -/
def DDat (K : PySem.W.Frag) : EqvB := fun x y H k => ∃ a b d e, x = .ref a ∧ y = .ref b ∧ (a = b → k = true) ∧ Dp K H x d ∧ Dp K H y e ∧ SeqAt.shaped d = true ∧ SeqAt.shaped e = true ∧ k = PyData.eqv d e
theorem rcB_dat : RcB X n (DDat X.K) := by
  intro A pins s σ H x y u v k sb I rx ry d
  obtain ⟨a, b, d, e, rfl, rfl, _, hd, he, sd, se, rfl⟩ := d
  obtain ⟨as, r1⟩ := Dp.reads I d _ u hd rx
  obtain ⟨bs, r2⟩ := Dp.reads I e _ v he ry
  exact SeqAt.compareEq_shaped r1 r2 sd se sb.room.units ⟨rfl, H, I, Ext.rfl'⟩
theorem eqB_dat : EqB X n (DDat X.K) := rcB_dat.eqB fun x y H k d => by
  obtain ⟨a, b, _, _, h1, h2, h3, _⟩ := d
  exact ⟨a, b, h1, h2, h3⟩
theorem EqB.or {D D' : EqvB} (h : EqB X n D) (h' : EqB X n D') : EqB X n (fun x y H k => D x y H k ∨ D' x y H k) := by
  intro A pins s σ H x y u v k sb I rx ry d
  exact d.elim (fun d => h A pins s σ H x y u v k sb I rx ry d) (fun d => h' A pins s σ H x y u v k sb I rx ry d)
theorem MonB.or {D D' : EqvB} (h : MonB D) (h' : MonB D') : MonB (fun x y H k => D x y H k ∨ D' x y H k) := fun x y H H' k e d => d.imp (h x y H H' k e) (h' x y H H' k e)
theorem mon_dat {K : PySem.W.Frag} : MonB (DDat K) := fun x y H H' k e d => by
  obtain ⟨a, b, d, f, h1, h2, h3, hd, he, h4⟩ := d
  exact ⟨a, b, d, f, h1, h2, h3, dp_ext e _ _ hd, dp_ext e _ _ he, h4⟩
end
end L2

set_option Elab.async false
set_option maxRecDepth 100000
set_option maxHeartbeats 4000000
/-! not in, of an own __contains__ -/
namespace L2
open PySem PySem.Spec PyProof.Rows
section
variable {X : Cx} {CX : CXT} {k : Nat} {f C : Addr} {fd : FuncData} {ps : List Str} {sp : Sp}
def rNinO (C : Addr) (sp : Sp) : R2 := fun x y H Q => ∃ a dx fs, y = .ref a ∧ H a = some (.ins C dx fs) ∧ sp [y, x] H (fun v H' => ∃ b, v = .bl b ∧ Q (.bl (!b)) H') E0
theorem op_ninO (F : FnOk X.prog X.w X.K X.mg X.base CX k f fd ps sp) (hs : PySem.W.findIn X.K (.ref C) "__contains__" = some (some (.ref f))) (hf : PySem.W.isFn X.K (.ref f) = true) (hr : Room k X.A) (hb : Binds X.K fd ps []) (hx : Passes CX X E0) : OpR X (compareOp .NotIn) (rNinO C sp) := by
  intro pins s g J x y v u Q I rx ry hq
  obtain ⟨a, dx, fs, rfl, ha, q⟩ := hq
  cases (show u = Value.ref a from ry)
  obtain ⟨mA, O, _⟩ := ins_get I.hok ha
  obtain ⟨od, O, _⟩ := O.look
  show wpAny (model X.prog X.w) X.A (contains (.ref a) v >>= fun b => pure (.bool (!b))) (EP X pins g Q) X.xe s
  refine wpAny_bind (PySem.W.contains_fn I.kIn O hs hf (wpAny_mono (run_at (vs := [.ref a, x]) F hr rfl hb hx I (.cons rfl (.cons rx .nil)) q) (fun r s' z => ?_) fun _ _ e => e))
  obtain ⟨w', J', I', rv, b, rfl, q'⟩ := z
  cases rv
  exact ⟨b, rfl, wpAny_pure ⟨.bl (!b), J', I', rfl, q'⟩⟩
theorem ninO {m : Nat} (O : OwnM X.prog X.w X.K X.mg X.base CX C "__contains__" m ps sp) (hr : Room m X.A) (hx : Passes CX X E0) : OpR X (compareOp .NotIn) (rNinO C sp) := by
  obtain ⟨f, fd, F, M, hi, hb⟩ := O.ex
  exact op_ninO F M.at_ hi hr hb hx
end
end L2

set_option Elab.async false
set_option maxRecDepth 100000
set_option maxHeartbeats 4000000
/-! xs.count(y), over data -/
namespace L2
open PySem PySem.Spec PyProof.Rows
section
variable {X : Cx}
def rCntD (K : PySem.W.Frag) : V → List V → Hp → VK → Prop := fun x xs H Q => ∃ (a : Addr) (y : V) (d : PyData) (ds : List PyData), x = V.ref a ∧ xs = [y] ∧ Dp K H (V.ref a) (.list ds) ∧ Dp K H y d ∧ PyData.plainAll ds = true ∧ d.plain = true ∧ PyData.depthAll ds ≤ 60 ∧ Q (.int ((ds.countP fun z => PyData.eqv z d : Nat) : Int)) H
theorem mt_countD (hu : X.A.units + 64 < cLine) : MtR X "list.count" (rCntD X.K) := by
  intro pins s σ H x xs v us Q I rx rxs h
  obtain ⟨a, y, d, ds, rfl, rfl, hl, hy, sl, sd, hdp, q⟩ := h
  cases rx
  obtain ⟨u, rfl, ru⟩ := rxs.one
  obtain ⟨bs, r1⟩ := Dp.reads I d y u hy ru
  cases hl with
  | lst hs ha =>
    obtain ⟨its, rv, pl, _⟩ := I.list hs
    obtain ⟨as, h4⟩ := Dp.readsAll I ds _ its ha rv
    exact SeqAt.count_list_data pl.isList (by simpa using h4) r1 sl sd (by have := Nat.min_le_left (PyData.depthAll ds) d.depth; omega) ⟨.int _, H, I.tok _, ⟨_, rfl⟩, q⟩
end
end L2

set_option Elab.async false
set_option linter.all false
set_option maxRecDepth 100000
set_option maxHeartbeats 4000000
/-! a generator's for and if -/
namespace L2
open PySem PySem.Spec PyProof.Rows GenW
section
variable {M : Model} {A : Around} {R : GenEnd} {Y : Protocol} {n : Nat} {s₀ s : Shared} {c : Code} {fs : List Frame} {env : Env} {K : Flow → Sem PySem.Fin} {J : Value → Sem PySem.Fin} {gd : Bool → Bool} {lv : List Value → List Value}
/-- the row that an error leaves in a loop's code -/
abbrev marked (env : Env) (e : Value) : Sem PySem.Fin := (do noteFrame e env; theTreesLotGoes e : Sem Unit).bind fun _ => .raise e
/-- what a loop's body goes on to -/
abbrev onward (l : Code) : Flow → Sem PySem.Fin := fun f => match f with
  | .next | .cont => .pure (.again l)
  | .brk => .pure (.done .next)
  | .ret v => .pure (.done (.ret v))
theorem gseg_if {test : Expr} {body orelse : List Stmt} {pos : Pos}
    (h : wpAny M (A.over c fs) (isTrue test env (eval test env)) (fun b s' => Seg M A R Y n s₀ c ((if b = true then execs body env else execs orelse env).wrap K J gd lv) fs s') (fun x s' => Seg M A R Y n s₀ c (J x) fs s') s) :
    Seg M A R Y n s₀ c ((exec (.If test body orelse pos) env).wrap K J gd lv) fs s := by
  rw [exec_If]
  refine seg_bind_wrap (wpAny_standAt ?_)
  refine seg_bind_wrap (wpAny_mono h (fun b s' hb => ?_) fun _ _ hx => hx)
  cases b <;> exact hb
theorem gseg_for {tg iter : Expr} {body : List Stmt} {pos : Pos} (hs : ∀ x, foldedSetIterable iter env x = pure x)
    (h : wpAny M (A.over c fs) (eval iter env) (fun v s1 => wpAny M (A.over c fs) (pyIter v) (fun it s2 => ∀ p, Seg M A R Y n s₀ (.forLoop tg it body [] env) (M.den (.forLoop tg it body [] env))
      (.ret (fun r => ((match r with | .ok f => (.pure f : Sem Flow) | .error e => .raise e).onRaise (cameBack env)).wrap K J gd lv) none (gd false) (lv []) c p [] :: fs) s2) (fun x s' => Seg M A R Y n s₀ c (J x) fs s') s1) (fun x s' => Seg M A R Y n s₀ c (J x) fs s') s) :
    Seg M A R Y n s₀ c ((exec (.For tg iter body [] pos) env).wrap K J gd lv) fs s := by
  rw [exec_For]
  refine seg_bind_wrap (wpAny_standAt ?_)
  refine seg_bind_wrap (wpAny_mono h (fun v s1 h1 => ?_) fun _ _ hx => hx)
  refine seg_bind_wrap (wpAny_of_eq (hs v) ?_)
  refine seg_bind_wrap (wpAny_standAt ?_)
  refine seg_bind_wrap (wpAny_holding (wpAny_mono h1 (fun it s2 h2 => ?_) fun _ _ hx => hx))
  exact seg_call h2
end
section
variable {prog : Program} {w : World} {A : Around} {R : GenEnd} {Y : Protocol} {n : Nat} {s₀ s : Shared} {fs : List Frame} {env : Env}
theorem gseg_turn {tg : Expr} {it : Value} {body : List Stmt}
    (h : wpAny (model prog w) (A.over (.forLoop tg it body [] env) fs) (pyNext it) (fun r s1 => match r with
      | none => Seg (model prog w) A R Y n s₀ (.forLoop tg it body [] env) (.pure (.again (.block [] env))) fs s1
      | some v => wpAny (model prog w) (A.over (.forLoop tg it body [] env) fs) (letOwnedTupleGo tg it v) (fun _ s2 => wpAny (model prog w) (A.over (.forLoop tg it body [] env) fs) (assign tg env v) (fun _ s3 =>
          Seg (model prog w) A R Y n s₀ (.forLoop tg it body [] env) ((execs body env).wrap (onward (.forLoop tg it body [] env)) (marked env) id id) fs s3)
          (fun x s' => Seg (model prog w) A R Y n s₀ (.forLoop tg it body [] env) (marked env x) fs s') s2) (fun x s' => Seg (model prog w) A R Y n s₀ (.forLoop tg it body [] env) (marked env x) fs s') s1)
      (fun x s' => Seg (model prog w) A R Y n s₀ (.forLoop tg it body [] env) (marked env x) fs s') s) :
    Seg (model prog w) A R Y n s₀ (.forLoop tg it body [] env) ((model prog w).den (.forLoop tg it body [] env)) fs s := by
  show Seg _ A R Y n s₀ _ ((forTurn tg it body [] env).onRaise (fun x => do noteFrame x env; theTreesLotGoes x)) fs s
  unfold forTurn
  rw [Sem.onRaise_eq_wrap]
  refine seg_bind_wrap (wpAny_standAt ?_)
  refine seg_bind_wrap (wpAny_onRaise (wpAny_mono h (fun r s1 h1 => ?_) fun _ _ hx => wpAny_standAt hx))
  cases r with
  | none => exact h1
  | some v =>
    refine seg_bind_wrap (wpAny_mono h1 (fun _ s2 h2 => ?_) fun _ _ hx => hx)
    refine seg_bind_wrap (wpAny_mono h2 (fun _ s3 h3 => ?_) fun _ _ hx => hx)
    rw [Sem.bind_eq_wrap', Sem.wrap_wrap]
    rw [Sem.wrap_congr (execs body env) _ _ (K' := onward (.forLoop tg it body [] env)) (H' := marked env) (fun f => by cases f <;> rfl) (fun _ => by rfl)]
    exact h3
end
section
variable {X : Cx} {pos : Pos}
def tGIf (c : TT) (t u : TGn) : TGn := fun D ys σ H => c σ H fun b H1 => if b = true then t D ys σ H1 else u D ys σ H1
theorem gs_if {test : Expr} {body orelse : List Stmt} {tc : TT} {t u : TGn} (hc : PT X test tc) (hb : GSs X body t) (ho : GSs X orelse u) : GS X (.If test body orelse pos) (tGIf tc t u) := by
  refine ⟨fun A S ip R n ys s₀ c fs K J gd lv s σ H D g hn k hI ht => ?_⟩
  refine gseg_if ?_
  rw [g.over]
  obtain ⟨acc, cc, r, I⟩ := hI
  refine wpAny_mono (hc.run _ s σ H _ I ht) (fun b s' hb' => ?_) fun x s' hx => k.exc n s₀ x s' hx
  obtain ⟨H2, I2, q2⟩ := hb'
  cases b with
  | true => exact hb.run A S ip R n ys s₀ c fs K J gd lv s' σ H2 D g hn k ⟨acc, cc, r, I2⟩ q2
  | false => exact ho.run A S ip R n ys s₀ c fs K J gd lv s' σ H2 D g hn k ⟨acc, cc, r, I2⟩ q2
/-- W: what holds at turn i (a measure; what is out; the slots; the heap) -/
def tGFor (wi : TI) (g : TG) (tb : TGn) : TGn := fun D ys σ H => wi σ H fun J H1 => ∃ W : Nat → Nat → List V → St → Hp → Prop, (∃ m, W 0 m ys σ H1) ∧ ∀ i m ys σ H, W i m ys σ H →
  (J.stop i H ∧ D.nx ys σ H) ∨ (J.go i H ∧ ∃ N : List V → St → Hp → Prop, (∀ ys' σ' H', N ys' σ' H' → ∃ m', m' < m ∧ W (i + 1) m' ys' σ' H') ∧ ∀ x H', J.yld i H x H' → g x σ H' fun σ2 H2 => tb { D with nx := N, ct := N, bk := D.nx } ys σ2 H2)
theorem gs_for {tg iter : Expr} {body : List Stmt} {wi : TI} {g : TG} {tb : TGn} (hp : PassesOwn (model X.prog X.w) X.A X.env X.xe) (hc : X.calm = true) (hi : PI X tg iter wi) (hg : PG X tg g) (hb : GSs X body tb)
    (hs : ∀ x, foldedSetIterable iter X.env x = pure x := by intro _; rfl) : GS X (.For tg iter body [] pos) (tGFor wi g tb) := by
  refine ⟨fun A S ip R n ys s₀ c fs K J gd lv s σ H D g0 hn k hI ht => ?_⟩
  refine gseg_for hs ?_
  obtain ⟨acc, cc, r, I⟩ := hI
  rw [g0.over]
  refine wpAny_mono (hi.run _ s σ H _ I ht) (fun v s1 h1 => wpAny_mono h1 (fun itv s2 h2 p => ?_) fun x s' hx => k.exc n s₀ x s' hx) fun x s' hx => k.exc n s₀ x s' hx
  obtain ⟨it, fp, tn, Jt, H2, e, I2, T, st2, f2, W, ⟨m0, w0⟩, turn⟩ := h2
  subst e
  have notS : ∀ b ∈ fp, b ≠ S := fun b hb z => (f2 b hb).2.2.2.2.2 (S, lstObj acc cc) (List.mem_append_right _ List.mem_cons_self) z.symm
  have stat : ∀ {H' : Hp} {acc' : Array Value} {cc' : Nat}, (∀ b ∈ fp, H' b = none) → ∀ b ∈ fp, FpOk X ((S, lstObj acc' cc') :: ip) H' b := fun {H' acc' cc'} hn b hb => by
    obtain ⟨_, f1, f3, f4, f5, f6⟩ := f2 b hb
    refine ⟨hn b hb, f1, f3, f4, f5, fun q hq => ?_⟩
    rcases List.mem_append.mp hq with z | z
    · exact f6 q (List.mem_append_left _ z)
    · rcases List.mem_cons.mp z with z | z
      · rw [z]
        exact f6 (S, lstObj acc cc) (List.mem_append_right _ List.mem_cons_self)
      · exact f6 q (List.mem_append_right _ (List.mem_cons_of_mem _ z))
  have gl := fun (kk : Result → Sem PySem.Fin) => gc_loop (k := kk) (c' := .forLoop tg (.ref it) body [] X.env) (l := lv []) (kp := []) (p := p) g0 rfl rfl
  have gb := fun (kk : Result → Sem PySem.Fin) => gc_loop (k := kk) (c' := .block [] X.env) (l := lv []) (kp := []) (p := p) g0 rfl rfl
  have loop : ∀ (m n i : Nat) (ys : List V) (s₀ s : Shared) (σ : St) (H : Hp), n + ys.length = sizeLine → W i m ys σ H → tn i s.heap → (∀ b ∈ fp, H b = none) → GI X S ip ys σ H s →
      Seg (model X.prog X.w) A R (GY X S) n s₀ (.forLoop tg (.ref it) body [] X.env) ((model X.prog X.w).den (.forLoop tg (.ref it) body [] X.env))
        (.ret (fun r => ((match r with | .ok f => (.pure f : Sem Flow) | .error e => .raise e).onRaise (cameBack X.env)).wrap K J gd lv) none (gd false) (lv []) c p [] :: fs) s := by
    intro m
    induction m using Nat.strongRecOn with
    | ind m ih =>
      intro n i ys s₀ s3 σ3 H3 hn w3 st3 fr3 hI3
      have ee : ∀ (n : Nat) (s₀ : Shared) (x : Value) (s' : Shared), X.xe x s' → Seg (model X.prog X.w) A R (GY X S) n s₀ (.forLoop tg (.ref it) body [] X.env) (marked X.env x)
          (.ret (fun r => ((match r with | .ok f => (.pure f : Sem Flow) | .error e => .raise e).onRaise (cameBack X.env)).wrap K J gd lv) none (gd false) (lv []) c p [] :: fs) s' := fun n s₀ x s' hx => by
        unfold marked
        rw [Sem.bind_eq_wrap]
        refine seg_wrap ?_
        rw [(gl _).over]
        refine wpAny_bind (wpAny_mono (hp x s' hx) (fun _ s'' hcb => wpAny_theTreesLotGoes ?_) fun y s'' hcb => ?_)
        · exact seg_leaf (.error x) (seg_cameBack g0 k hcb)
        · exact seg_leaf (.error y) (seg_cameBack g0 k hcb)
      obtain ⟨acc3, cc3, r3, I3⟩ := hI3
      refine gseg_turn ?_
      rw [(gl _).over]
      rcases turn i m ys σ3 H3 w3 with ⟨stop, qn⟩ | ⟨go, N, hN, step⟩
      · refine wpAny_mono (T.done X rfl rfl rfl hc i _ s3 σ3 H3 X.xe I3 (stat fr3) st3 stop) (fun r s4 hr => ?_) fun x s' hx => ee n s₀ x s' hx
        obtain ⟨rfl, I4⟩ := hr
        refine seg_again rfl ?_
        show Seg _ A R _ n s₀ _ (((execs [] X.env).onRaise (fun x => do noteFrame x X.env; theTreesLotGoes x)) >>= fun f => (.pure (.done f) : Sem PySem.Fin)) _ s4
        exact seg_leaf (.ok .next) (k.ok n ys s₀ s4 .next hn ⟨σ3, H3, ⟨acc3, cc3, r3, I4⟩, qn⟩)
      · refine wpAny_mono (T.item X rfl rfl rfl hc i _ s3 σ3 H3 X.xe I3 (stat fr3) st3 go) (fun r s4 hr => ?_) fun x s' hx => ee n s₀ x s' hx
        obtain ⟨u, rfl, h4⟩ := hr
        refine wpAny_mono h4 (fun _ s5 h5 => ?_) fun x s' hx => ee n s₀ x s' hx
        obtain ⟨x, H5, I5, r5, y5, st5, fr5⟩ := h5
        have I5' := I5.pinned (stat fr5) (T.obj _ _ st5)
        refine wpAny_mono (hg.run _ s5 σ3 H5 x u _ I5' r5 (step x H5 y5)) (fun _ s6 h6 => ?_) fun x s' hx => ee n s₀ x s' hx
        obtain ⟨σ6, H6, I6, q6⟩ := h6
        have g1 := gl (fun r => ((match r with | .ok f => (.pure f : Sem Flow) | .error e => .raise e).onRaise (cameBack X.env)).wrap K J gd lv)
        have gl' : GC X S (ip ++ pinsAt fp s5.heap) A (.forLoop tg (.ref it) body [] X.env) (.ret (fun r => ((match r with | .ok f => (.pure f : Sem Flow) | .error e => .raise e).onRaise (cameBack X.env)).wrap K J gd lv) none (gd false) (lv []) c p [] :: fs) id :=
          ⟨g1.pn, fun q hq => (List.mem_append.mp hq).elim (g1.ip q) fun z => notS q.1 (of_pinsAt z).1, g1.apart, g1.over, g1.split, g1.guard, rfl⟩
        refine hb.run A S (ip ++ pinsAt fp s5.heap) R n ys s₀ _ _ _ _ id id s6 σ6 H6 { D with nx := N, ct := N, bk := D.nx } gl' hn ⟨fun n' ys' s₀' s7 f hn' hs => ?_, fun n' s₀' x s7 hx => ee n' s₀' x s7 hx⟩ ⟨acc3, cc3, r3, I6⟩ q6
        have back : ∀ {σ7 : St} {H7 : Hp}, GI X S (ip ++ pinsAt fp s5.heap) ys' σ7 H7 s7 → GI X S ip ys' σ7 H7 s7 ∧ tn (i + 1) s7.heap ∧ ∀ b ∈ fp, H7 b = none := fun {σ7 H7} h7 => by
          obtain ⟨acc7, cc7, r7, I7⟩ := h7
          have pin : ∀ b ∈ fp, ∀ o, s5.heap.get? b = some o → s7.heap.get? b = some o ∧ H7 b = none := fun b hb o e => by
            obtain ⟨e1, e2, _⟩ := I7.pin (b, o) (List.mem_append_right _ (List.mem_cons_of_mem _ (List.mem_append_right _ (mem_pinsAt hb e))))
            exact ⟨e1, e2⟩
          refine ⟨⟨acc7, cc7, r7, Inv.unpinned (pins := (S, lstObj acc7 cc7) :: ip) (pl := pinsAt fp s5.heap) I7⟩, T.keep _ _ _ st5 fun b hb o e => (pin b hb o e).1, fun b hb => ?_⟩
          obtain ⟨o, e, _⟩ := T.obj _ _ st5 b hb
          exact (pin b hb o e).2
        cases f with
        | next =>
          obtain ⟨σ7, H7, G7, n7⟩ := hs
          obtain ⟨m', hm, w7⟩ := hN ys' σ7 H7 n7
          obtain ⟨G8, st8, fr8⟩ := back G7
          exact seg_again rfl (ih m' hm n' (i + 1) ys' s₀' s7 σ7 H7 hn' w7 st8 fr8 G8)
        | cont =>
          obtain ⟨σ7, H7, G7, n7⟩ := hs
          obtain ⟨m', hm, w7⟩ := hN ys' σ7 H7 n7
          obtain ⟨G8, st8, fr8⟩ := back G7
          exact seg_again rfl (ih m' hm n' (i + 1) ys' s₀' s7 σ7 H7 hn' w7 st8 fr8 G8)
        | brk =>
          obtain ⟨σ7, H7, G7, n7⟩ := hs
          exact seg_leaf (.ok .next) (k.ok n' ys' s₀' s7 .next hn' ⟨σ7, H7, (back G7).1, n7⟩)
        | ret v =>
          obtain ⟨x7, σ7, H7, G7, r7, n7⟩ := hs
          exact seg_leaf (.ok (.ret v)) (k.ok n' ys' s₀' s7 (.ret v) hn' ⟨x7, σ7, H7, (back G7).1, r7, n7⟩)
  exact loop m0 n 0 ys s₀ s2 σ H2 hn w0 st2 (fun b hb => (f2 b hb).1) ⟨acc, cc, r, I2⟩
end
end L2

set_option Elab.async false
set_option linter.all false
set_option maxRecDepth 100000
set_option maxHeartbeats 4000000
/-! max(xs, default=d), min(xs, default=d), ints -/
namespace L2
open PySem PySem.Spec PyProof.Rows
def mxD (d : Int) : List Int → Int
  | [] => d
  | n :: ns => ns.foldl max n
def mnD (d : Int) : List Int → Int
  | [] => d
  | n :: ns => ns.foldl min n
theorem foldl_max (n : Int) : ∀ ns : List Int, (ns.foldl max n = n ∨ ns.foldl max n ∈ ns) ∧ n ≤ ns.foldl max n ∧ ∀ y ∈ ns, y ≤ ns.foldl max n
  | [] => ⟨.inl rfl, Int.le_refl _, fun _ h => nomatch h⟩
  | k :: ns => by
    obtain ⟨h1, h2, h3⟩ := foldl_max (max n k) ns
    rw [List.foldl_cons]
    refine ⟨?_, by omega, fun y hy => ?_⟩
    · rcases h1 with h1 | h1
      · rcases Int.le_total n k with h | h
        · exact .inr (by rw [h1, Int.max_eq_right h]; exact List.mem_cons_self)
        · exact .inl (by rw [h1, Int.max_eq_left h])
      · exact .inr (List.mem_cons_of_mem _ h1)
    · rcases List.mem_cons.mp hy with rfl | hy
      · omega
      · exact h3 y hy
theorem foldl_min (n : Int) : ∀ ns : List Int, (ns.foldl min n = n ∨ ns.foldl min n ∈ ns) ∧ ns.foldl min n ≤ n ∧ ∀ y ∈ ns, ns.foldl min n ≤ y
  | [] => ⟨.inl rfl, Int.le_refl _, fun _ h => nomatch h⟩
  | k :: ns => by
    obtain ⟨h1, h2, h3⟩ := foldl_min (min n k) ns
    rw [List.foldl_cons]
    refine ⟨?_, by omega, fun y hy => ?_⟩
    · rcases h1 with h1 | h1
      · rcases Int.le_total n k with h | h
        · exact .inl (by rw [h1, Int.min_eq_left h])
        · exact .inr (by rw [h1, Int.min_eq_right h]; exact List.mem_cons_self)
      · exact .inr (List.mem_cons_of_mem _ h1)
    · rcases List.mem_cons.mp hy with rfl | hy
      · omega
      · exact h3 y hy
theorem mxD_mem {d : Int} {ns : List Int} (h : ns ≠ []) : mxD d ns ∈ ns ∧ ∀ y ∈ ns, y ≤ mxD d ns := by
  cases ns with
  | nil => exact absurd rfl h
  | cons n ns =>
    obtain ⟨h1, h2, h3⟩ := foldl_max n ns
    refine ⟨?_, fun y hy => ?_⟩
    · rcases h1 with h1 | h1
      · exact List.mem_cons.mpr (.inl h1)
      · exact List.mem_cons_of_mem _ h1
    · rcases List.mem_cons.mp hy with rfl | hy
      · exact h2
      · exact h3 y hy
theorem mnD_mem {d : Int} {ns : List Int} (h : ns ≠ []) : mnD d ns ∈ ns ∧ ∀ y ∈ ns, mnD d ns ≤ y := by
  cases ns with
  | nil => exact absurd rfl h
  | cons n ns =>
    obtain ⟨h1, h2, h3⟩ := foldl_min n ns
    refine ⟨?_, fun y hy => ?_⟩
    · rcases h1 with h1 | h1
      · exact List.mem_cons.mpr (.inl h1)
      · exact List.mem_cons_of_mem _ h1
    · rcases List.mem_cons.mp hy with rfl | hy
      · exact h2
      · exact h3 y hy
section
variable {X : Cx}
def rMxD (K : PySem.W.Frag) (f : Int → List Int → Int) : List V → List V → Hp → VK → Prop := fun vs zs H Q => ∃ (a : Addr) (ns : List Int) (d : Int), vs = [V.ref a] ∧ zs = [.int d] ∧ SqL K H a (ns.map V.int) ∧ Q (.int (f d ns)) H
theorem ints_pd (ns : List Int) : (ns.map V.int).map pd = ns.map PyData.int := by
  rw [List.map_map]
  rfl
theorem ints_alike (ns : List Int) : PySem.W.AlikeAll (ns.map PyData.int) := by
  refine ⟨fun x hx y hy => ?_, fun x hx => ?_⟩
  · obtain ⟨a, _, rfl⟩ := List.mem_map.mp hx
    obtain ⟨b, _, rfl⟩ := List.mem_map.mp hy
    rfl
  · obtain ⟨a, _, rfl⟩ := List.mem_map.mp hx
    exact fun z => nomatch z
theorem ints_dep (ns : List Int) : PyData.depthAll (ns.map PyData.int) = 0 := by
  rw [← ints_pd]
  exact (lay_all fl_ints).2
theorem cr_maxD (hc : X.calm = true) (hu : X.A.units + 64 < cLine) : CallRK X (.builtin "max") [Str.ofString "default"] (rMxD X.K mxD) := by
  intro pins s σ H vs zs us ws Q I r rz h
  obtain ⟨a, ns, d, rfl, rfl, hs, q⟩ := h
  obtain rfl := Vals.ref1 r
  obtain ⟨w1, rfl, e1⟩ := vals1 rz
  obtain ⟨its, rv, hl, _⟩ := I.list hs
  have hd : DpAll X.K H (ns.map V.int) (ns.map PyData.int) := by rw [← ints_pd]; exact dp_all fl_ints
  obtain ⟨as, h4⟩ := Dp.readsAll I _ _ its hd rv
  refine PySem.W.max_list_default (xs := ns.map PyData.int) (I.ok.hd hc) hl.isList (by simpa using h4) (ints_alike ns) (by rw [ints_dep]; omega) (fun he h' tk hk => ?_) (fun y ys i v h' tk bs he hi hr hk => ?_)
  · have hn : ns = [] := List.map_eq_nil_iff.mp he
    subst hn
    exact ⟨.int d, H, I.kept hk, e1, q⟩
  · cases ns with
    | nil => cases he
    | cons n ns =>
      rw [List.map_cons] at he
      injection he with he1 he2
      subst he1 he2
      rw [PySem.W.maxD_ints] at hr
      cases hr
      exact ⟨.int _, H, I.kept hk, ⟨_, rfl⟩, q⟩
theorem cr_minD (hc : X.calm = true) (hu : X.A.units + 64 < cLine) : CallRK X (.builtin "min") [Str.ofString "default"] (rMxD X.K mnD) := by
  intro pins s σ H vs zs us ws Q I r rz h
  obtain ⟨a, ns, d, rfl, rfl, hs, q⟩ := h
  obtain rfl := Vals.ref1 r
  obtain ⟨w1, rfl, e1⟩ := vals1 rz
  obtain ⟨its, rv, hl, _⟩ := I.list hs
  have hd : DpAll X.K H (ns.map V.int) (ns.map PyData.int) := by rw [← ints_pd]; exact dp_all fl_ints
  obtain ⟨as, h4⟩ := Dp.readsAll I _ _ its hd rv
  refine PySem.W.min_list_default (xs := ns.map PyData.int) (I.ok.hd hc) hl.isList (by simpa using h4) (ints_alike ns) (by rw [ints_dep]; omega) (fun he h' tk hk => ?_) (fun y ys i v h' tk bs he hi hr hk => ?_)
  · have hn : ns = [] := List.map_eq_nil_iff.mp he
    subst hn
    exact ⟨.int d, H, I.kept hk, e1, q⟩
  · cases ns with
    | nil => cases he
    | cons n ns =>
      rw [List.map_cons] at he
      injection he with he1 he2
      subst he1 he2
      rw [PySem.W.minD_ints] at hr
      cases hr
      exact ⟨.int _, H, I.kept hk, ⟨_, rfl⟩, q⟩
end
end L2

set_option Elab.async false
set_option linter.all false
set_option maxRecDepth 100000
set_option maxHeartbeats 4000000
/-! a generator def of the top that keeps its promise; list(f(..)) of it -/
namespace L2
open PySem PySem.Spec PyProof.Rows GenW
section
variable {P : Program} {w : World} {K : PySem.W.Frag} {mg : Str → Option Value} {base : Heap}
structure OwnG (P : Program) (w : World) (K : PySem.W.Frag) (mg : Str → Option Value) (base : Heap) (x : Str) (k : Nat) (ps : List Str) (sp : SpG) : Prop where
  ex : ∃ (f : Addr) (fd : FuncData), GFn P w K mg base k f fd ps sp ∧ mg x = some (.ref f) ∧ PySem.W.keepIn K (.ref f) = true ∧ Binds K fd ps []
theorem DefAt.ownG {x : Str} {st : Stmt} {ps : List Str} {k : Nat} {sp : SpG} (D : DefAt K mg x st ps) (h : ∀ f fd, Fun K x x st f fd → GFn P w K mg base k f fd ps sp) : OwnG P w K mg base x k ps sp := by
  obtain ⟨f, fd, F, hm, hb⟩ := D.ex
  exact ⟨f, fd, h f fd F, hm, F.kp, hb⟩
/-- a generator def by its body -/
theorem gfn_fun {x qual : Str} {st : Stmt} {f : Addr} {fd : FuncData} {N ps : List Str} {k : Nat} {sp : SpG} (F : Fun K x qual st f fd) (S : GScope N ps (defScope st)) (len : ∀ vs H Q E, sp vs H Q E → vs.length = ps.length)
    (hbody : ∀ (cdv : Value) (A : Around) (outer : List Env) (s : Shared) (H : Hp) (vs : List V) (Q : List V → Hp → Prop) (E : XK) (pn : List (Addr × Obj)), Room k (A.deeper (envOfC qual (defScope st) s.heap.objs.size f cdv)) → sp vs H Q E →
      ∃ t, GSs (gcxOf P w K mg base N qual (defScope st) f cdv A outer s H E pn) (defBody st) t ∧ t { nx := fun ys _ H' => Q ys H', rt := fun ys v H' => v = .non ∧ Q ys H' } [] (start N vs) H) : GFn P w K mg base (k + 1) f fd ps sp := by
  obtain ⟨oc, od, kV, doc, pm, an, cdv, ct, osl, rfl, lk, hcd⟩ := F.ex
  exact gfn_of lk hcd S len fun A outer s H vs Q E pn hr hsp => hbody cdv A outer s H vs Q E pn hr hsp
end
section
variable {X : Cx} {x nm : Str} {k : Nat} {ps : List Str} {sp : SpG} {e : Expr} {es : List Expr} {t : TA} {p p2 pos pos2 : Pos}
theorem noStop0 {K : PySem.W.Frag} : NoStop K E0 := fun _ _ _ h => False.elim h
/-- list(f(e, ..)) -/
theorem pe_listOwnG (O : OwnG X.prog X.w X.K X.mg X.base x k ps sp) (hr : Room (k + 3) X.A) (ha : PA X (e :: es) t) (hmg : X.mg nm = none) (hgl : Gl X nm := by rfl) (hg : Gl X x := by rfl) (hv : bootBuiltins nm = some (.type "list") := by decide +kernel) (hnm : nm ≠ "__name__" := by decide) (hdb : (nm == ("__debug__" : Str)) = false := by decide) (hdb2 : (x == ("__debug__" : Str)) = false := by decide)
    (he : starEach (e :: es) X.env = (false, eval e X.env) :: starEach es X.env := by rfl) (hpl : (backTo pos (starEach es X.env)).any (·.1) = false := by rfl)
    (he2 : starEach [Expr.Call (.Name x p) (e :: es) [] pos] X.env = (false, eval (Expr.Call (.Name x p) (e :: es) [] pos) X.env) :: starEach [] X.env := by rfl) : PE X (.Call (.Name nm p2) [.Call (.Name x p) (e :: es) [] pos] [] pos2) (tListG (tCallG sp [] E0 t)) := by
  obtain ⟨f, fd, F, hm, hk, hb⟩ := O.ex
  exact pe_listG (pgen_call F (hr.mono (by omega)) hg hm hk hb .nil ha hdb2 he hpl) passL noStop0 hr hgl hmg hv hnm hdb he2
end
section
variable {K : PySem.W.Frag} {g : TG} {tb : TGn} {D : GEnds} {ys : List V} {σ : St} {H : Hp}
theorem gfor_range {lo : Int} {n : Nat} (Pv : Nat → List V → St → Hp → Prop) (h0 : Pv 0 ys σ H) (hs : ∀ i ys σ H, i < n → Pv i ys σ H → g (.int (lo + i)) σ H fun σ2 H2 => tb { D with nx := Pv (i + 1), ct := Pv (i + 1), bk := D.nx } ys σ2 H2) (hd : ∀ ys σ H, Pv n ys σ H → D.nx ys σ H) :
    ∃ W : Nat → Nat → List V → St → Hp → Prop, (∃ m, W 0 m ys σ H) ∧ ∀ i m ys σ H, W i m ys σ H →
      ((Itr lo n).stop i H ∧ D.nx ys σ H) ∨ ((Itr lo n).go i H ∧ ∃ N : List V → St → Hp → Prop, (∀ ys' σ' H', N ys' σ' H' → ∃ m', m' < m ∧ W (i + 1) m' ys' σ' H') ∧ ∀ x H', (Itr lo n).yld i H x H' → g x σ H' fun σ2 H2 => tb { D with nx := N, ct := N, bk := D.nx } ys σ2 H2) := by
  refine ⟨fun i m ys σ H => m = n - i ∧ i ≤ n ∧ Pv i ys σ H, ⟨n - 0, rfl, Nat.zero_le _, h0⟩, ?_⟩
  rintro i m ys σ H ⟨rfl, hi, pv⟩
  by_cases hlt : i < n
  · refine .inr ⟨hlt, Pv (i + 1), fun ys' σ' H' q => ⟨n - (i + 1), by omega, rfl, hlt, q⟩, fun x H' hy => ?_⟩
    obtain ⟨rfl, rfl⟩ := hy
    exact hs i ys σ _ hlt pv
  · have e : i = n := by omega
    subst e
    exact .inl ⟨Nat.le_refl _, hd ys σ H pv⟩
theorem gfor_list {a : Addr} {xs : List V} (Pv : Nat → List V → St → Hp → Prop) (h0 : Pv 0 ys σ H) (hl : ∀ i ys σ H, i ≤ xs.length → Pv i ys σ H → SqL K H a xs) (hs : ∀ i x ys σ H, xs[i]? = some x → Pv i ys σ H → g x σ H fun σ2 H2 => tb { D with nx := Pv (i + 1), ct := Pv (i + 1), bk := D.nx } ys σ2 H2) (hd : ∀ ys σ H, Pv xs.length ys σ H → D.nx ys σ H) :
    ∃ W : Nat → Nat → List V → St → Hp → Prop, (∃ m, W 0 m ys σ H) ∧ ∀ i m ys σ H, W i m ys σ H →
      ((Itl K a).stop i H ∧ D.nx ys σ H) ∨ ((Itl K a).go i H ∧ ∃ N : List V → St → Hp → Prop, (∀ ys' σ' H', N ys' σ' H' → ∃ m', m' < m ∧ W (i + 1) m' ys' σ' H') ∧ ∀ x H', (Itl K a).yld i H x H' → g x σ H' fun σ2 H2 => tb { D with nx := N, ct := N, bk := D.nx } ys σ2 H2) := by
  refine ⟨fun i m ys σ H => m = xs.length - i ∧ i ≤ xs.length ∧ Pv i ys σ H, ⟨xs.length - 0, rfl, Nat.zero_le _, h0⟩, ?_⟩
  rintro i m ys σ H ⟨rfl, hi, pv⟩
  have hq := hl i ys σ H hi pv
  by_cases hlt : i < xs.length
  · have hx : xs[i]? = some xs[i] := List.getElem?_eq_getElem hlt
    refine .inr ⟨⟨xs, xs[i], hq, hx⟩, Pv (i + 1), fun ys' σ' H' q => ⟨xs.length - (i + 1), by omega, rfl, hlt, q⟩, fun x H' hy => ?_⟩
    obtain ⟨rfl, hy⟩ := hy
    exact hs i x ys σ _ (hy xs hq) pv
  · have e : i = xs.length := by omega
    subst e
    exact .inl ⟨⟨xs, hq, Nat.le_refl _⟩, hd ys σ H pv⟩
theorem gfor_tup {a : Addr} {xs : List V} (Pv : Nat → List V → St → Hp → Prop) (h0 : Pv 0 ys σ H) (hl : ∀ i ys σ H, i ≤ xs.length → Pv i ys σ H → SqT K H a xs) (hs : ∀ i x ys σ H, xs[i]? = some x → Pv i ys σ H → g x σ H fun σ2 H2 => tb { D with nx := Pv (i + 1), ct := Pv (i + 1), bk := D.nx } ys σ2 H2) (hd : ∀ ys σ H, Pv xs.length ys σ H → D.nx ys σ H) :
    ∃ W : Nat → Nat → List V → St → Hp → Prop, (∃ m, W 0 m ys σ H) ∧ ∀ i m ys σ H, W i m ys σ H →
      ((Itt K a).stop i H ∧ D.nx ys σ H) ∨ ((Itt K a).go i H ∧ ∃ N : List V → St → Hp → Prop, (∀ ys' σ' H', N ys' σ' H' → ∃ m', m' < m ∧ W (i + 1) m' ys' σ' H') ∧ ∀ x H', (Itt K a).yld i H x H' → g x σ H' fun σ2 H2 => tb { D with nx := N, ct := N, bk := D.nx } ys σ2 H2) := by
  refine ⟨fun i m ys σ H => m = xs.length - i ∧ i ≤ xs.length ∧ Pv i ys σ H, ⟨xs.length - 0, rfl, Nat.zero_le _, h0⟩, ?_⟩
  rintro i m ys σ H ⟨rfl, hi, pv⟩
  have hq := hl i ys σ H hi pv
  by_cases hlt : i < xs.length
  · have hx : xs[i]? = some xs[i] := List.getElem?_eq_getElem hlt
    refine .inr ⟨⟨xs, xs[i], hq, hx⟩, Pv (i + 1), fun ys' σ' H' q => ⟨xs.length - (i + 1), by omega, rfl, hlt, q⟩, fun x H' hy => ?_⟩
    obtain ⟨rfl, hy⟩ := hy
    exact hs i x ys σ _ (hy xs hq) pv
  · have e : i = xs.length := by omega
    subst e
    exact .inl ⟨⟨xs, hq, Nat.le_refl _⟩, hd ys σ H pv⟩
end
end L2

set_option Elab.async false
set_option linter.all false
set_option maxRecDepth 100000
set_option maxHeartbeats 4000000
/-! ==, not in over data, the kit's own part named -/
namespace L2
open PySem PySem.Spec PyProof.Rows
section
variable {X : Cx} {K : PySem.W.Frag}
theorem op_eqDK (h : X.K = K) (hu : X.A.units + 64 < cLine) : OpR X (compareOp .Eq) (rEqD K) := by
  subst h
  exact op_eqD hu
theorem op_neDK (h : X.K = K) (hu : X.A.units + 64 < cLine) : OpR X (compareOp .NotEq) (rNeD K) := by
  subst h
  exact op_neD hu
theorem op_inDK (h : X.K = K) (hu : X.A.units + 65 < cLine) : OpR X (compareOp .In) (rInD K) := by
  subst h
  exact op_inD hu
theorem op_notInDK (h : X.K = K) (hu : X.A.units + 65 < cLine) : OpR X (compareOp .NotIn) (rNotInD K) := by
  subst h
  exact op_notInD hu
end
end L2

set_option Elab.async false
set_option linter.all false
/-! all, any within comprehensions: the kit's own part named -/
namespace L2
open PySem PySem.Spec PyProof.Rows
section
variable {X : Cx} {K : PySem.W.Frag}
theorem cr_allK (h : X.K = K) (hc : X.calm = true) : CallR X (.builtin "all") (rAll K) := by
  subst h
  exact cr_all hc
theorem cr_anyK (h : X.K = K) (hc : X.calm = true) : CallR X (.builtin "any") (rAny K) := by
  subst h
  exact cr_any hc
end
end L2

set_option Elab.async false
set_option maxRecDepth 100000
namespace K33
/-! signs as lists of ints; D the most delay, T the turn, L the losses, Z the quiet -/
def prev (S : List Int) (i : Nat) : Int := if i = 0 then 0 else S.getD (i - 1) 0
def Rise (Z : Int) (S : List Int) : Prop := ∀ i, i < S.length → prev S i + 1 ≤ S.getD i 0 ∧ S.getD i 0 ≤ Z - 1
/-- the i-th stop -/
def st (D T Z : Int) (S : List Int) (i : Nat) : Int := if i = 0 then -2 * D else if i ≤ S.length then S.getD (i - 1) 0 else Z + ((i - S.length - 1 : Nat) : Int) * T
def Do (D T : Int) (L : Nat) (Z : Int) (S : List Int) (lim : Int) : Prop := ∀ i, i ≤ S.length → st D T Z S (i + (L + 1)) - st D T Z S i ≤ lim
structure LullOk (D T : Int) (L : Nat) (Z : Int) : Prop where
  d : 1 ≤ D
  t : 2 * D ≤ T
  l : 1 ≤ L
  z : 1 ≤ Z
section
variable {D T Z lim : Int} {L : Nat} {S : List Int}
theorem st_zero : st D T Z S 0 = -2 * D := by unfold st; rw [if_pos rfl]
theorem st_in {i : Nat} (h1 : 1 ≤ i) (h2 : i ≤ S.length) : st D T Z S i = S.getD (i - 1) 0 := by unfold st; rw [if_neg (by omega), if_pos h2]
theorem st_out {i : Nat} : st D T Z S (S.length + 1 + i) = Z + (i : Int) * T := by
  unfold st
  rw [if_neg (by omega), if_neg (by omega), show S.length + 1 + i - S.length - 1 = i by omega]
theorem st_step (k : LullOk D T L Z) (hr : Rise Z S) (i : Nat) : st D T Z S i + 1 ≤ st D T Z S (i + 1) := by
  have hd := k.d
  have ht := k.t
  have hz := k.z
  by_cases h0 : i = 0
  · subst h0
    rw [st_zero]
    by_cases h1 : 1 ≤ S.length
    · rw [st_in (Nat.le_refl _) h1]
      have := (hr 0 (by omega)).1
      unfold prev at this
      rw [if_pos rfl] at this
      show -2 * D + 1 ≤ S.getD 0 0
      omega
    · rw [show 0 + 1 = S.length + 1 + 0 by omega, st_out]
      simp
      omega
  · by_cases h1 : i + 1 ≤ S.length
    · rw [st_in (by omega) h1, st_in (by omega) (by omega)]
      have := (hr i (by omega)).1
      unfold prev at this
      rw [if_neg h0] at this
      exact this
    · by_cases h2 : i ≤ S.length
      · rw [st_in (by omega) h2, show i + 1 = S.length + 1 + 0 by omega, st_out]
        have := (hr (i - 1) (by omega)).2
        rw [show ((0 : Nat) : Int) * T = 0 by simp]
        omega
      · obtain ⟨j, rfl⟩ : ∃ j, i = S.length + 1 + j := ⟨i - S.length - 1, by omega⟩
        rw [st_out, show S.length + 1 + j + 1 = S.length + 1 + (j + 1) by omega, st_out]
        have e : ((j + 1 : Nat) : Int) * T = (j : Int) * T + T := by rw [Int.natCast_add, Int.add_mul]; simp
        rw [e]
        omega
theorem st_add (k : LullOk D T L Z) (hr : Rise Z S) (i : Nat) : ∀ n : Nat, st D T Z S i + (n : Int) ≤ st D T Z S (i + n)
  | 0 => by simp
  | n + 1 => by
    have h1 := st_add k hr i n
    have h2 := st_step k hr (i + n)
    rw [show i + (n + 1) = i + n + 1 by omega]
    omega
theorem rise_low (hr : Rise Z S) : ∀ i, i < S.length → ((i : Int) + 1) ≤ S.getD i 0
  | 0, h => by
    have := (hr 0 h).1
    unfold prev at this
    rw [if_pos rfl] at this
    simpa using this
  | i + 1, h => by
    have h1 := rise_low hr i (by omega)
    have := (hr (i + 1) h).1
    unfold prev at this
    rw [if_neg (by omega), Nat.add_sub_cancel] at this
    omega
/-! the latest signs -/
def lots (L p : Nat) : Nat := (p + L) / (L + 1)
def latA (Z : Int) (m p : Nat) : Int := Z - 1 - ((m : Int) - (p : Int))
def latB (D : Int) (L : Nat) (lim : Int) (p : Nat) : Int := (lots L p : Int) * lim - 2 * D - ((lots L p : Int) * ((L + 1 : Nat) : Int) - (p : Int))
def latP (D : Int) (L : Nat) (Z lim : Int) (m p : Nat) : Int := if L + 1 ≤ m then (if latB D L lim p < latA Z m p then latB D L lim p else latA Z m p) else latA Z m p
def lat (D : Int) (L : Nat) (Z lim : Int) (m : Nat) : List Int := (List.range m).map fun j => latP D L Z lim m (j + 1)
theorem lat_len {m : Nat} : (lat D L Z lim m).length = m := by simp [lat]
theorem getD_mr {f : Nat → Int} {m i : Nat} (h : i < m) : ((List.range m).map f).getD i 0 = f i := by
  rw [List.getD_eq_getElem?_getD, List.getElem?_map, List.getElem?_range h]
  rfl
theorem lat_get {m j : Nat} (h : j < m) : (lat D L Z lim m).getD j 0 = latP D L Z lim m (j + 1) := getD_mr h
theorem latP_leA {m p : Nat} : latP D L Z lim m p ≤ latA Z m p := by
  unfold latP
  split
  · split <;> omega
  · omega
theorem latP_leB {m p : Nat} (h : L + 1 ≤ m) : latP D L Z lim m p ≤ latB D L lim p := by
  unfold latP
  rw [if_pos h]
  split <;> omega
theorem latP_ge {m p : Nat} {x : Int} (h1 : x ≤ latA Z m p) (h2 : L + 1 ≤ m → x ≤ latB D L lim p) : x ≤ latP D L Z lim m p := by
  unfold latP
  split
  · rename_i h
    have := h2 h
    split <;> omega
  · exact h1
theorem lots_le {p : Nat} : lots L p * (L + 1) ≤ p + L := Nat.div_mul_le_self _ _
theorem lots_ge {p : Nat} : p ≤ lots L p * (L + 1) := by
  have h := Nat.div_add_mod (p + L) (L + 1)
  have h2 := Nat.mod_lt (p + L) (show 0 < L + 1 by omega)
  have e : lots L p * (L + 1) = (L + 1) * ((p + L) / (L + 1)) := Nat.mul_comm _ _
  omega
theorem lots_add {p : Nat} : lots L (p + (L + 1)) = lots L p + 1 := by
  unfold lots
  rw [show p + (L + 1) + L = p + L + (L + 1) by omega, Nat.add_div_right _ (by omega)]
theorem lots_succ {p : Nat} : lots L (p + 1) = lots L p ∨ (lots L (p + 1) = lots L p + 1 ∧ p = lots L p * (L + 1)) := by
  have a1 := @lots_le L p
  have a2 := @lots_ge L p
  have b1 := @lots_le L (p + 1)
  have b2 := @lots_ge L (p + 1)
  generalize lots L p = q at *
  generalize lots L (p + 1) = r at *
  rcases Nat.lt_trichotomy r q with h | h | h
  · exfalso
    have : (r + 1) * (L + 1) ≤ q * (L + 1) := Nat.mul_le_mul_right _ h
    rw [Nat.add_mul] at this
    omega
  · exact .inl h
  · right
    have h1 : (q + 1) * (L + 1) ≤ r * (L + 1) := Nat.mul_le_mul_right _ h
    rw [Nat.add_mul] at h1
    have hr : r = q + 1 := by
      rcases Nat.lt_or_ge r (q + 2) with h2 | h2
      · omega
      · exfalso
        have h3 : (q + 2) * (L + 1) ≤ r * (L + 1) := Nat.mul_le_mul_right _ h2
        rw [Nat.add_mul] at h3
        omega
    refine ⟨hr, ?_⟩
    omega
theorem cmul (a b : Nat) : ((a * b : Nat) : Int) = (a : Int) * (b : Int) := by simp
/-- the chain of stops -/
theorem chain (hd : Do D T L Z S lim) : ∀ q : Nat, (q ≤ 0 ∨ (q - 1) * (L + 1) ≤ S.length) → st D T Z S (q * (L + 1)) ≤ -2 * D + (q : Int) * lim
  | 0, _ => by
    rw [Nat.zero_mul, st_zero]
    simp
  | q + 1, h => by
    have h' : q * (L + 1) ≤ S.length := by
      rcases h with h | h
      · omega
      · simpa using h
    have ih := chain hd q (by
      rcases Nat.eq_zero_or_pos q with z | z
      · left; omega
      · right
        exact Nat.le_trans (Nat.mul_le_mul_right _ (by omega)) h')
    have h1 := hd (q * (L + 1)) h'
    have e : (q + 1) * (L + 1) = q * (L + 1) + (L + 1) := by rw [Nat.add_mul, Nat.one_mul]
    have e2 : ((q + 1 : Nat) : Int) * lim = (q : Int) * lim + lim := by rw [Int.natCast_add, Int.add_mul]; simp
    rw [e, e2]
    omega
theorem le_lat (k : LullOk D T L Z) (hr : Rise Z S) (hd : Do D T L Z S lim) {p : Nat} (_ : 1 ≤ p) (pm : p ≤ S.length) : st D T Z S p ≤ latP D L Z lim S.length p := by
  refine latP_ge ?_ fun _ => ?_
  · have h := st_add k hr p (S.length + 1 - p)
    rw [show p + (S.length + 1 - p) = S.length + 1 + 0 by omega, st_out] at h
    unfold latA
    simp at h
    omega
  · have a1 := @lots_le L p
    have a2 := @lots_ge L p
    have h1 := chain hd (lots L p) (by
      right
      rcases Nat.eq_zero_or_pos (lots L p) with z | z
      · rw [z]
        simp
      · have : (lots L p - 1) * (L + 1) + (L + 1) = lots L p * (L + 1) := by
          rw [← Nat.succ_mul]
          congr 1
          omega
        omega)
    have h2 := st_add k hr p (lots L p * (L + 1) - p)
    rw [show p + (lots L p * (L + 1) - p) = lots L p * (L + 1) by omega] at h2
    unfold latB
    have e := cmul (lots L p) (L + 1)
    omega
theorem lim_ge (k : LullOk D T L Z) (hr : Rise Z S) (hd : Do D T L Z S lim) : ((L + 1 : Nat) : Int) ≤ lim := by
  have h1 := hd 0 (by omega)
  have h2 := st_add k hr 0 (L + 1)
  omega
theorem lat_ok (k : LullOk D T L Z) (hr : Rise Z S) (hd : Do D T L Z S lim) : Rise Z (lat D L Z lim S.length) ∧ Do D T L Z (lat D L Z lim S.length) lim := by
  have hl := lim_ge k hr hd
  have hB : ∀ p, latB D L lim p + 1 ≤ latB D L lim (p + 1) := fun p => by
    unfold latB
    rcases @lots_succ L p with h | ⟨h, hp⟩
    · rw [h]
      omega
    · rw [h]
      have e1 : ((lots L p + 1 : Nat) : Int) * lim = (lots L p : Int) * lim + lim := by rw [Int.natCast_add, Int.add_mul]; simp
      have e2 : ((lots L p + 1 : Nat) : Int) * ((L + 1 : Nat) : Int) = (lots L p : Int) * ((L + 1 : Nat) : Int) + ((L + 1 : Nat) : Int) := by rw [Int.natCast_add, Int.add_mul]; simp
      rw [e1, e2]
      omega
  have hBa : ∀ p, latB D L lim (p + (L + 1)) = latB D L lim p + lim := fun p => by
    unfold latB
    rw [lots_add]
    have e1 : ((lots L p + 1 : Nat) : Int) * lim = (lots L p : Int) * lim + lim := by rw [Int.natCast_add, Int.add_mul]; simp
    have e2 : ((lots L p + 1 : Nat) : Int) * ((L + 1 : Nat) : Int) = (lots L p : Int) * ((L + 1 : Nat) : Int) + ((L + 1 : Nat) : Int) := by rw [Int.natCast_add, Int.add_mul]; simp
    rw [e1, e2]
    omega
  refine ⟨fun i hi => ?_, fun i hi => ?_⟩
  · rw [lat_len] at hi
    rw [lat_get hi]
    refine ⟨?_, ?_⟩
    · unfold prev
      by_cases h0 : i = 0
      · rw [if_pos h0]
        subst h0
        have h1 := le_lat k hr hd (p := 1) (by omega) (by omega)
        rw [st_in (by omega) (by omega)] at h1
        have h2 := (hr 0 hi).1
        unfold prev at h2
        rw [if_pos rfl] at h2
        have e : (1 : Nat) - 1 = 0 := rfl
        rw [e] at h1
        show 0 + 1 ≤ latP D L Z lim S.length 1
        omega
      · rw [if_neg h0, lat_get (by omega), show i - 1 + 1 = i by omega]
        refine latP_ge ?_ fun hb => ?_
        · have := @latP_leA D Z lim L S.length i
          unfold latA at this ⊢
          omega
        · have := @latP_leB D Z lim L S.length i hb
          have := hB i
          omega
    · have := @latP_leA D Z lim L S.length (i + 1)
      unfold latA at this
      omega
  · rw [lat_len] at hi
    have far : ∀ j, S.length < j → st D T Z (lat D L Z lim S.length) j = st D T Z S j := fun j hj => by
      unfold st
      rw [lat_len, if_neg (by omega), if_neg (by omega), if_neg (by omega), if_neg (by omega)]
    have inn : ∀ j, 1 ≤ j → j ≤ S.length → st D T Z (lat D L Z lim S.length) j = latP D L Z lim S.length j := fun j h1 h2 => by
      rw [st_in h1 (by rw [lat_len]; exact h2), lat_get (by omega), show j - 1 + 1 = j by omega]
    by_cases h0 : i = 0
    · subst h0
      rw [st_zero, Nat.zero_add]
      by_cases hb : L + 1 ≤ S.length
      · rw [inn _ (by omega) hb]
        have h1 := @latP_leB D Z lim L S.length (L + 1) hb
        have h2 := hBa 0
        have e0 : latB D L lim 0 = - 2 * D := by
          unfold latB
          have : lots L 0 = 0 := Nat.div_eq_of_lt (by omega)
          rw [this]
          simp
          omega
        rw [Nat.zero_add] at h2
        omega
      · rw [far _ (by omega)]
        have h1 := hd 0 (by omega)
        rw [st_zero, Nat.zero_add] at h1
        exact h1
    · rw [inn i (by omega) hi]
      by_cases hb : i + (L + 1) ≤ S.length
      · rw [inn _ (by omega) hb]
        have a1 := @latP_leA D Z lim L S.length (i + (L + 1))
        have a2 := @latP_leB D Z lim L S.length (i + (L + 1)) (by omega)
        have : latP D L Z lim S.length (i + (L + 1)) - lim ≤ latP D L Z lim S.length i := by
          refine latP_ge ?_ fun _ => ?_
          · unfold latA at a1 ⊢
            omega
          · have := hBa i
            omega
        omega
      · rw [far _ (by omega)]
        have h1 := hd i hi
        have h2 := le_lat k hr hd (p := i) (by omega) hi
        omega
/-! one sign more -/
theorem first_gap : ∀ (n : Nat), (∀ i, i < n → S.getD i 0 = (i : Int) + 1) ∨ ∃ j, j < n ∧ (∀ i, i < j → S.getD i 0 = (i : Int) + 1) ∧ S.getD j 0 ≠ (j : Int) + 1
  | 0 => .inl fun _ h => absurd h (Nat.not_lt_zero _)
  | n + 1 => by
    rcases first_gap n with h | ⟨j, h1, h2, h3⟩
    · by_cases e : S.getD n 0 = (n : Int) + 1
      · left
        intro i hi
        by_cases hi' : i < n
        · exact h i hi'
        · rw [show i = n by omega]
          exact e
      · exact .inr ⟨n, by omega, h, e⟩
    · exact .inr ⟨j, by omega, h2, h3⟩
theorem more (k : LullOk D T L Z) (hr : Rise Z S) (hd : Do D T L Z S lim) (hm : (S.length : Int) + 1 ≤ Z - 1) : ∃ S', S'.length = S.length + 1 ∧ Rise Z S' ∧ Do D T L Z S' lim := by
  obtain ⟨j, jm, hj1, hj2⟩ : ∃ j, j ≤ S.length ∧ (∀ i, i < j → S.getD i 0 = (i : Int) + 1) ∧ (j < S.length → (j : Int) + 2 ≤ S.getD j 0) := by
    rcases @first_gap S S.length with h | ⟨j, h1, h2, h3⟩
    · exact ⟨S.length, Nat.le_refl _, h, fun h => absurd h (Nat.lt_irrefl _)⟩
    · refine ⟨j, by omega, h2, fun _ => ?_⟩
      have := rise_low hr j h1
      omega
  let g : Nat → Int := fun i => if i < j then S.getD i 0 else if i = j then (j : Int) + 1 else S.getD (i - 1) 0
  have g1 : ∀ i, i < j → g i = S.getD i 0 := fun i h => if_pos h
  have g2 : g j = (j : Int) + 1 := by show (if j < j then _ else if j = j then _ else _) = _; rw [if_neg (by omega), if_pos rfl]
  have g3 : ∀ i, j < i → g i = S.getD (i - 1) 0 := fun i h => by show (if i < j then _ else if i = j then _ else _) = _; rw [if_neg (by omega), if_neg (by omega)]
  have hlen : ((List.range (S.length + 1)).map g).length = S.length + 1 := by simp
  have hg : ∀ i, i < S.length + 1 → ((List.range (S.length + 1)).map g).getD i 0 = g i := fun i h => getD_mr h
  generalize hS : (List.range (S.length + 1)).map g = S' at hlen hg
  -- the stops
  have s0 : ∀ i, i ≤ j → st D T Z S' i = st D T Z S i := fun i h => by
    by_cases h0 : i = 0
    · rw [h0, st_zero, st_zero]
    · rw [st_in (by omega) (by omega), st_in (by omega) (by omega), hg _ (by omega), g1 _ (by omega)]
  have s1 : st D T Z S' (j + 1) = (j : Int) + 1 := by
    rw [st_in (by omega) (by omega), hg _ (by omega), Nat.add_sub_cancel, g2]
  have s2 : ∀ i, j + 1 ≤ i → st D T Z S' (i + 1) = st D T Z S i := fun i h => by
    by_cases h1 : i ≤ S.length
    · rw [st_in (by omega) (by omega), st_in (by omega) h1, hg _ (by omega), g3 _ (by omega), Nat.add_sub_cancel]
    · obtain ⟨q, rfl⟩ : ∃ q, i = S.length + 1 + q := ⟨i - S.length - 1, by omega⟩
      rw [st_out, show S.length + 1 + q + 1 = S'.length + 1 + q by omega, st_out]
  have up : (j : Int) + 2 ≤ st D T Z S (j + 1) := by
    by_cases h : j < S.length
    · rw [st_in (by omega) (by omega), Nat.add_sub_cancel]
      exact hj2 h
    · rw [show j + 1 = S.length + 1 + 0 by omega, st_out]
      simp
      omega
  have dn : st D T Z S j ≤ (j : Int) := by
    by_cases h0 : j = 0
    · rw [h0, st_zero]
      have := k.d
      simp
      omega
    · rw [st_in (by omega) jm, hj1 _ (by omega)]
      omega
  refine ⟨S', hlen, fun i hi => ?_, fun i hi => ?_⟩
  · rw [hg i (by omega)]
    rcases Nat.lt_trichotomy i j with h | h | h
    · rw [g1 _ h]
      have := hr i (by omega)
      refine ⟨?_, this.2⟩
      have e : prev S' i = prev S i := by
        unfold prev
        by_cases h0 : i = 0
        · rw [if_pos h0, if_pos h0]
        · rw [if_neg h0, if_neg h0, hg _ (by omega), g1 _ (by omega)]
      rw [e]
      exact this.1
    · subst h
      rw [g2]
      refine ⟨?_, by omega⟩
      unfold prev
      by_cases h0 : i = 0
      · rw [if_pos h0]
        omega
      · rw [if_neg h0, hg _ (by omega), g1 _ (by omega), hj1 _ (by omega)]
        omega
    · rw [g3 _ h]
      have := hr (i - 1) (by omega)
      refine ⟨?_, this.2⟩
      unfold prev
      rw [if_neg (by omega), hg _ (by omega)]
      by_cases h1 : i - 1 = j
      · rw [h1, g2]
        have := hj2 (by omega)
        omega
      · rw [g3 _ (by omega)]
        have := this.1
        unfold prev at this
        rw [if_neg (by omega)] at this
        exact this
  · rw [hlen] at hi
    by_cases h : i ≤ j
    · rw [s0 i h]
      have h1 := hd i (by omega)
      have h2 : st D T Z S' (i + (L + 1)) ≤ st D T Z S (i + (L + 1)) := by
        rcases Nat.lt_trichotomy (i + (L + 1)) (j + 1) with h | h | h
        · rw [s0 _ (by omega)]
          omega
        · rw [h, s1]
          omega
        · obtain ⟨q, hq⟩ : ∃ q, i + (L + 1) = q + 1 := ⟨i + L, rfl⟩
          rw [hq, s2 q (by omega)]
          have := st_step k hr q
          omega
      omega
    · obtain ⟨q, rfl⟩ : ∃ q, i = q + 1 := ⟨i - 1, by omega⟩
      rw [show q + 1 + (L + 1) = q + (L + 1) + 1 by omega, s2 _ (by omega)]
      have h1 := hd q (by omega)
      have h2 : st D T Z S q ≤ st D T Z S' (q + 1) := by
        by_cases h : q = j
        · rw [h, s1]
          omega
        · rw [s2 q (by omega)]
          omega
      omega
/-- so many signs do -/
def Ok (D T : Int) (L : Nat) (Z lim : Int) (m : Nat) : Prop := Rise Z (lat D L Z lim m) ∧ Do D T L Z (lat D L Z lim m) lim
theorem ok_of (k : LullOk D T L Z) (hr : Rise Z S) (hd : Do D T L Z S lim) : Ok D T L Z lim S.length := lat_ok k hr hd
theorem ok_succ (k : LullOk D T L Z) {m : Nat} (h : Ok D T L Z lim m) (hm : (m : Int) + 1 ≤ Z - 1) : Ok D T L Z lim (m + 1) := by
  obtain ⟨S', hl, h1, h2⟩ := more k h.1 h.2 (by rw [lat_len]; exact hm)
  rw [lat_len] at hl
  rw [← hl]
  exact ok_of k h1 h2
theorem ok_mono (k : LullOk D T L Z) {m : Nat} (h : Ok D T L Z lim m) : ∀ n : Nat, ((m + n : Nat) : Int) ≤ Z - 1 → Ok D T L Z lim (m + n)
  | 0, _ => h
  | n + 1, hz => by
    have h1 := ok_mono k h n (by omega)
    have h2 : Ok D T L Z lim (m + n + 1) := ok_succ k h1 (by omega)
    exact h2
end
end K33

set_option Elab.async false
set_option maxRecDepth 100000
namespace K33
/-! all signs of a quiet -/
def lastP (S : List Int) : Int := prev S S.length
def step (Z : Int) (S : List Int) : List (List Int) := (List.range (Z - (lastP S + 1)).toNat).map fun (i : Nat) => S ++ [lastP S + 1 + (i : Int)]
def subs (Z : Int) : Nat → List (List Int)
  | 0 => [[]]
  | n + 1 => (subs Z n).flatMap (step Z)
theorem getD_left {S : List Int} {a : Int} {i : Nat} (h : i < S.length) : (S ++ [a]).getD i 0 = S.getD i 0 := by
  rw [List.getD_eq_getElem?_getD, List.getElem?_append_left h, List.getD_eq_getElem?_getD]
theorem getD_last {S : List Int} {a : Int} : (S ++ [a]).getD S.length 0 = a := by
  rw [List.getD_eq_getElem?_getD, List.getElem?_append_right (Nat.le_refl _), Nat.sub_self]
  rfl
theorem prev_left {S : List Int} {a : Int} {i : Nat} (h : i ≤ S.length) : prev (S ++ [a]) i = prev S i := by
  unfold prev
  by_cases h0 : i = 0
  · rw [if_pos h0, if_pos h0]
  · rw [if_neg h0, if_neg h0, getD_left (by omega)]
theorem rise_snoc {Z : Int} {S : List Int} {a : Int} : Rise Z (S ++ [a]) ↔ Rise Z S ∧ lastP S + 1 ≤ a ∧ a ≤ Z - 1 := by
  have hl : (S ++ [a]).length = S.length + 1 := by simp
  constructor
  · intro h
    refine ⟨fun i hi => ?_, ?_⟩
    · have := h i (by omega)
      rw [prev_left (by omega), getD_left hi] at this
      exact this
    · have := h S.length (by omega)
      rw [prev_left (Nat.le_refl _), getD_last] at this
      exact this
  · rintro ⟨h, h1⟩ i hi
    by_cases hi' : i < S.length
    · rw [prev_left (by omega), getD_left hi']
      exact h i hi'
    · rw [show i = S.length by omega, prev_left (Nat.le_refl _), getD_last]
      exact h1
theorem snoc_of {S : List Int} {n : Nat} (h : S.length = n + 1) : ∃ S0 a, S = S0 ++ [a] ∧ S0.length = n := by
  have hne : S ≠ [] := fun z => by rw [z] at h; cases h
  refine ⟨S.dropLast, S.getLast hne, (List.dropLast_concat_getLast hne).symm, ?_⟩
  rw [List.length_dropLast, h]
  rfl
theorem mem_step {Z : Int} {S S' : List Int} : S' ∈ step Z S ↔ ∃ a, S' = S ++ [a] ∧ lastP S + 1 ≤ a ∧ a ≤ Z - 1 := by
  unfold step
  rw [List.mem_map]
  constructor
  · rintro ⟨i, hi, rfl⟩
    have := List.mem_range.mp hi
    exact ⟨_, rfl, by omega, by omega⟩
  · rintro ⟨a, rfl, h1, h2⟩
    refine ⟨(a - (lastP S + 1)).toNat, List.mem_range.mpr (by omega), ?_⟩
    rw [show lastP S + 1 + (((a - (lastP S + 1)).toNat : Nat) : Int) = a by omega]
theorem mem_subs {Z : Int} : ∀ {n : Nat} {S : List Int}, S ∈ subs Z n ↔ S.length = n ∧ Rise Z S
  | 0, S => by
    unfold subs
    rw [List.mem_singleton]
    constructor
    · rintro rfl
      exact ⟨rfl, fun i hi => absurd hi (Nat.not_lt_zero _)⟩
    · rintro ⟨h, _⟩
      exact List.eq_nil_of_length_eq_zero h
  | n + 1, S => by
    unfold subs
    rw [List.mem_flatMap]
    constructor
    · rintro ⟨S0, h0, h1⟩
      obtain ⟨hl, hr⟩ := mem_subs.mp h0
      obtain ⟨a, rfl, h2⟩ := mem_step.mp h1
      exact ⟨by simp [hl], rise_snoc.mpr ⟨hr, h2⟩⟩
    · rintro ⟨hl, hr⟩
      obtain ⟨S0, a, rfl, h0⟩ := snoc_of hl
      obtain ⟨h1, h2⟩ := rise_snoc.mp hr
      exact ⟨S0, mem_subs.mpr ⟨h0, h1⟩, mem_step.mpr ⟨a, rfl, h2⟩⟩
theorem lastP_low {Z : Int} {S : List Int} (h : Rise Z S) : 0 ≤ lastP S := by
  unfold lastP prev
  by_cases h0 : S.length = 0
  · rw [if_pos h0]
    omega
  · rw [if_neg h0]
    have := rise_low h (S.length - 1) (by omega)
    omega
theorem flat_len {Z : Int} (hz : Z ≤ 8) : ∀ (SS : List (List Int)), (∀ S ∈ SS, Rise Z S) → (SS.flatMap (step Z)).length ≤ 7 * SS.length
  | [], _ => by simp
  | S :: SS, h => by
    rw [List.flatMap_cons, List.length_append, List.length_cons]
    have h1 := flat_len hz SS fun S' hS => h S' (List.mem_cons_of_mem _ hS)
    have h2 := lastP_low (h S List.mem_cons_self)
    have h3 : (step Z S).length ≤ 7 := by
      unfold step
      rw [List.length_map, List.length_range]
      omega
    omega
theorem subs_len {Z : Int} (hz : Z ≤ 8) : ∀ n, (subs Z n).length ≤ 7 ^ n
  | 0 => Nat.le_refl _
  | n + 1 => by
    have h1 := flat_len hz (subs Z n) fun S hS => (mem_subs.mp hS).2
    have h2 := subs_len hz n
    unfold subs
    rw [Nat.pow_succ]
    omega
theorem pow7 {n : Nat} (h : n ≤ 7) : 7 ^ n ≤ 1000000 := Nat.le_trans (Nat.pow_le_pow_right (by decide) h) (by decide)
section
open Classical
noncomputable def doB (d t : Int) (L : Nat) (z lim : Int) (S : List Int) : Bool := decide (Do d t L z S lim)
theorem doB_iff {d t : Int} {L : Nat} {z lim : Int} {S : List Int} : doB d t L z lim S = true ↔ Do d t L z S lim := by
  unfold doB
  exact decide_eq_true_iff
end
noncomputable def goods (d t : Int) (L : Nat) (z lim : Int) (n : Nat) : List (List Int) := (subs z n).filter (doB d t L z lim)
theorem mem_goods {d t : Int} {L : Nat} {z lim : Int} {n : Nat} {S : List Int} : S ∈ goods d t L z lim n ↔ S.length = n ∧ Rise z S ∧ Do d t L z S lim := by
  unfold goods
  rw [List.mem_filter, mem_subs, doB_iff]
  exact and_assoc
theorem goods_ok {d t : Int} {L : Nat} {z lim : Int} (k : LullOk d t L z) {n : Nat} : goods d t L z lim n ≠ [] ↔ Ok d t L z lim n := by
  constructor
  · intro h
    obtain ⟨S, hS⟩ := List.exists_mem_of_ne_nil _ h
    obtain ⟨rfl, hr, hd⟩ := mem_goods.mp hS
    exact ok_of k hr hd
  · intro h e
    have : lat d L z lim n ∈ goods d t L z lim n := mem_goods.mpr ⟨lat_len, h.1, h.2⟩
    rw [e] at this
    cases this
theorem goods_max {d t : Int} {L : Nat} {z lim : Int} (k : LullOk d t L z) {n i : Nat} {m : Int} (hi : i < n) (hok : Ok d t L z lim n) (h1 : ∃ S ∈ goods d t L z lim n, S.getD i 0 = m) (h2 : ∀ S ∈ goods d t L z lim n, S.getD i 0 ≤ m) : m = (lat d L z lim n).getD i 0 := by
  have a := h2 _ (mem_goods.mpr ⟨lat_len, hok.1, hok.2⟩)
  obtain ⟨S, hS, rfl⟩ := h1
  obtain ⟨rfl, hr, hd⟩ := mem_goods.mp hS
  have c := le_lat k hr hd (p := i + 1) (by omega) (by omega)
  rw [st_in (by omega) (by omega), Nat.add_sub_cancel] at c
  rw [lat_get hi] at a ⊢
  omega
end K33

set_option Elab.async false
namespace K33
variable {D T Z lim : Int} {L m : Nat}
/-! chains that bar -/
def kn (D T Z : Int) (m : Nat) (p : Int) : Int := if p > (m : Int) then Z + (p - m - 1) * T else if p = 1 then 1 else -2 * D
def stepOk (L m : Nat) (p q : Int) : Bool := if q > p then decide (q = p + 1) && (decide (1 ≤ p) && decide (p ≤ (m : Int))) else decide (q = p - L - 1)
def ok2 (L m : Nat) : List Int → Bool
  | p :: q :: l => stepOk L m p q && ok2 L m (q :: l)
  | _ => true
def cost (lim : Int) : List Int → Int
  | p :: q :: l => (if q > p then -1 else lim) + cost lim (q :: l)
  | _ => 0
def inR (L m : Nat) (p : Int) : Bool := decide (0 ≤ p) && decide (p ≤ (m : Int) + L + 1)
def lastI (p : Int) (l : List Int) : Int := (p :: l).getLast (List.cons_ne_nil _ _)
def barsB (D T : Int) (L : Nat) (Z lim : Int) (m : Nat) : List Int → Bool
  | [] => false
  | p :: l => ((p :: l).all (inR L m)) && (!(decide (1 < p) && decide (p ≤ (m : Int))) && (!(decide (1 ≤ lastI p l) && decide (lastI p l ≤ (m : Int))) && (ok2 L m (p :: l) && decide (kn D T Z m p > kn D T Z m (lastI p l) + cost lim (p :: l)))))
/-- where a stop stands -/
def sI (D T Z : Int) (S : List Int) (p : Int) : Int := st D T Z S p.toNat
theorem walk (k : LullOk D T L Z) {S : List Int} (hr : Rise Z S) (hd : Do D T L Z S lim) : ∀ (l : List Int) (p : Int), ((p :: l).all (inR L S.length)) = true → ok2 L S.length (p :: l) = true → sI D T Z S p ≤ sI D T Z S (lastI p l) + cost lim (p :: l)
  | [], p, _, _ => by
    show sI D T Z S p ≤ sI D T Z S p + 0
    omega
  | q :: l, p, ha, h => by
    have ha' : inR L S.length p = true ∧ ((q :: l).all (inR L S.length)) = true := Bool.and_eq_true_iff.mp ha
    have h' : stepOk L S.length p q = true ∧ ok2 L S.length (q :: l) = true := Bool.and_eq_true_iff.mp h
    have ih := walk k hr hd l q ha'.2 h'.2
    have e : lastI p (q :: l) = lastI q l := List.getLast_cons _
    rw [e]
    show _ ≤ sI D T Z S (lastI q l) + ((if q > p then -1 else lim) + cost lim (q :: l))
    have h1 := h'.1
    have hp := ha'.1
    have hq : inR L S.length q = true := (Bool.and_eq_true_iff.mp ha'.2).1
    unfold inR at hp hq
    rw [Bool.and_eq_true, decide_eq_true_eq, decide_eq_true_eq] at hp hq
    unfold stepOk at h1
    by_cases g : q > p
    · rw [if_pos g] at h1 ⊢
      rw [Bool.and_eq_true, Bool.and_eq_true, decide_eq_true_eq, decide_eq_true_eq, decide_eq_true_eq] at h1
      obtain ⟨rfl, h2, h3⟩ := h1
      have s := st_step k hr p.toNat
      rw [show p.toNat + 1 = (p + 1).toNat by omega] at s
      unfold sI at ih ⊢
      omega
    · rw [if_neg g] at h1 ⊢
      rw [decide_eq_true_eq] at h1
      have s := hd q.toNat (by omega)
      rw [show q.toNat + (L + 1) = p.toNat by omega] at s
      unfold sI at ih ⊢
      omega
theorem kn_st {S : List Int} (hr : Rise Z S) {p : Int} (h0 : 0 ≤ p) (h : ¬ (1 < p ∧ p ≤ (S.length : Int))) : kn D T Z S.length p ≤ sI D T Z S p ∧ (¬ (1 ≤ p ∧ p ≤ (S.length : Int)) → kn D T Z S.length p = sI D T Z S p) := by
  unfold kn sI
  by_cases g : p > (S.length : Int)
  · rw [if_pos g]
    have e : p.toNat = S.length + 1 + (p.toNat - S.length - 1) := by omega
    rw [e, st_out]
    have : ((p.toNat - S.length - 1 : Nat) : Int) = p - S.length - 1 := by omega
    rw [this]
    exact ⟨Int.le_refl _, fun _ => rfl⟩
  · rw [if_neg g]
    by_cases g1 : p = 1
    · subst g1
      rw [if_pos rfl]
      have hl : 1 ≤ S.length := by omega
      rw [show (1 : Int).toNat = 1 from rfl, st_in (Nat.le_refl 1) hl]
      have := rise_low hr 0 (by omega)
      exact ⟨by simpa using this, fun z => absurd ⟨Int.le_refl _, by omega⟩ z⟩
    · rw [if_neg g1]
      have : p = 0 := by omega
      subst this
      rw [show (0 : Int).toNat = 0 from rfl, st_zero]
      exact ⟨Int.le_refl _, fun _ => rfl⟩
/-- what a chain bars cannot be -/
theorem bars_no (k : LullOk D T L Z) {S : List Int} (hr : Rise Z S) (hd : Do D T L Z S lim) : ∀ C, barsB D T L Z lim S.length C = false
  | [] => rfl
  | p :: l => by
    cases h : barsB D T L Z lim S.length (p :: l) with
    | false => rfl
    | true =>
      unfold barsB at h
      simp only [Bool.and_eq_true, Bool.not_eq_true', Bool.and_eq_false_iff, decide_eq_true_eq, decide_eq_false_iff_not] at h
      obtain ⟨h1, h2, h3, h4, h5⟩ := h
      have w := walk k hr hd l p h1 h4
      have all : ∀ x ∈ p :: l, 0 ≤ x := fun x hx => by
        have := List.all_eq_true.mp h1 x hx
        unfold inR at this
        rw [Bool.and_eq_true, decide_eq_true_eq] at this
        exact this.1
      have a := (kn_st (D := D) (T := T) hr (all p List.mem_cons_self) (by omega)).1
      have b := (kn_st (D := D) (T := T) hr (p := lastI p l) (all _ (List.getLast_mem _)) (by omega)).2 (by omega)
      omega
end K33

set_option Elab.async false
namespace K33
variable {D T Z lim : Int} {L m : Nat}
/-! a barring chain is found whenever so many signs don't do -/
structure Gd (L m : Nat) (lim : Int) (C : List Int) (h e v : Int) : Prop where
  ex : ∃ t, C = h :: t ∧ (C.all (inR L m)) = true ∧ ok2 L m C = true ∧ lastI h t = e ∧ cost lim C = v
theorem Gd.one {p : Int} (h0 : 0 ≤ p) (h1 : p ≤ (m : Int) + L + 1) : Gd L m lim [p] p p 0 := ⟨[], rfl, by
  show (inR L m p && true) = true
  unfold inR
  rw [decide_eq_true h0, decide_eq_true h1]
  rfl, rfl, rfl, rfl⟩
theorem Gd.up {C : List Int} {a e v : Int} (g : Gd L m lim C (a + 1) e v) (h1 : 1 ≤ a) (h2 : a ≤ (m : Int)) : Gd L m lim (a :: C) a e (v - 1) := by
  obtain ⟨t, rfl, g1, g2, g3, g4⟩ := g.ex
  refine ⟨(a + 1) :: t, rfl, ?_, ?_, ?_, ?_⟩
  · show (inR L m a && ((a + 1) :: t).all (inR L m)) = true
    rw [g1]
    unfold inR
    rw [decide_eq_true (show 0 ≤ a by omega), decide_eq_true (show a ≤ (m : Int) + L + 1 by omega)]
    rfl
  · show (stepOk L m a (a + 1) && ok2 L m ((a + 1) :: t)) = true
    rw [g2]
    unfold stepOk
    rw [if_pos (by omega), decide_eq_true rfl, decide_eq_true h1, decide_eq_true h2]
    rfl
  · rw [← g3]
    exact List.getLast_cons _
  · show (if a + 1 > a then -1 else lim) + cost lim ((a + 1) :: t) = v - 1
    rw [if_pos (by omega), g4]
    omega
theorem Gd.dn {C : List Int} {p e v : Int} (g : Gd L m lim C (p - L - 1) e v) (h0 : 0 ≤ p) (h1 : p ≤ (m : Int) + L + 1) : Gd L m lim (p :: C) p e (v + lim) := by
  obtain ⟨t, rfl, g1, g2, g3, g4⟩ := g.ex
  refine ⟨(p - L - 1) :: t, rfl, ?_, ?_, ?_, ?_⟩
  · show (inR L m p && ((p - L - 1) :: t).all (inR L m)) = true
    rw [g1]
    unfold inR
    rw [decide_eq_true h0, decide_eq_true h1]
    rfl
  · show (stepOk L m p (p - L - 1) && ok2 L m ((p - L - 1) :: t)) = true
    rw [g2]
    unfold stepOk
    rw [if_neg (by omega), decide_eq_true rfl]
    rfl
  · rw [← g3]
    exact List.getLast_cons _
  · show (if p - L - 1 > p then -1 else lim) + cost lim ((p - L - 1) :: t) = v + lim
    rw [if_neg (by omega), g4]
    omega
theorem Gd.bars {C : List Int} {h e v : Int} (g : Gd L m lim C h e v) (h1 : ¬ (1 < h ∧ h ≤ (m : Int))) (h2 : ¬ (1 ≤ e ∧ e ≤ (m : Int))) : barsB D T L Z lim m C = decide (kn D T Z m h > kn D T Z m e + v) := by
  obtain ⟨t, rfl, g1, g2, g3, g4⟩ := g.ex
  show (((h :: t).all (inR L m)) && (!(decide (1 < h) && decide (h ≤ (m : Int))) && (!(decide (1 ≤ lastI h t) && decide (lastI h t ≤ (m : Int))) && (ok2 L m (h :: t) && decide (kn D T Z m h > kn D T Z m (lastI h t) + cost lim (h :: t)))))) = _
  rw [g1, g2, g3, g4]
  have a : (decide (1 < h) && decide (h ≤ (m : Int))) = false := by
    rw [Bool.and_eq_false_iff, decide_eq_false_iff_not, decide_eq_false_iff_not]
    omega
  have b : (decide (1 ≤ e) && decide (e ≤ (m : Int))) = false := by
    rw [Bool.and_eq_false_iff, decide_eq_false_iff_not, decide_eq_false_iff_not]
    omega
  rw [a, b]
  simp
def rl (a b : Int) : List Int := (List.range (b - a).toNat).map fun i : Nat => a + (i : Int)
theorem rl_cons {a b : Int} (h : a < b) : rl a b = a :: rl (a + 1) b := by
  unfold rl
  rw [show (b - a).toNat = (b - (a + 1)).toNat + 1 by omega, List.range_succ_eq_map, List.map_cons, List.map_map]
  congr 1
  · simp
  · refine List.map_congr_left fun i _ => ?_
    show a + ((i + 1 : Nat) : Int) = a + 1 + (i : Int)
    omega
theorem rl_nil {a b : Int} (h : b ≤ a) : rl a b = [] := by
  unfold rl
  rw [show (b - a).toNat = 0 by omega]
  rfl
theorem up_chain {rest : List Int} {e v : Int} : ∀ (n : Nat) (a : Int), Gd L m lim ((a + n) :: rest) (a + n) e v → 1 ≤ a → a + n ≤ (m : Int) + 1 → Gd L m lim (rl a (a + n + 1) ++ rest) a e (v - n)
  | 0, a, g, h1, h2 => by
    rw [rl_cons (by omega), rl_nil (by omega)]
    simpa using g
  | n + 1, a, g, h1, h2 => by
    have e1 : a + ((n + 1 : Nat) : Int) = a + 1 + (n : Int) := by omega
    rw [e1] at g h2
    have ih := up_chain n (a + 1) g (by omega) (by omega)
    rw [e1, rl_cons (by omega)]
    have := ih.up h1 (by omega)
    rw [show v - ((n + 1 : Nat) : Int) = v - (n : Int) - 1 by omega]
    exact this
def dl (L : Nat) (p : Int) (k : Nat) : List Int := (List.range k).map fun i : Nat => p - (i : Int) * ((L : Int) + 1)
theorem dl_succ {p : Int} {k : Nat} : dl L p (k + 1) = p :: dl L (p - L - 1) k := by
  unfold dl
  rw [List.range_succ_eq_map, List.map_cons, List.map_map]
  congr 1
  · simp
  · refine List.map_congr_left fun i _ => ?_
    show p - ((i + 1 : Nat) : Int) * ((L : Int) + 1) = p - L - 1 - (i : Int) * ((L : Int) + 1)
    rw [Int.natCast_add, Int.add_mul]
    simp
    omega
theorem dn_chain {rest : List Int} {e v : Int} : ∀ (k : Nat) (p c : Int), c = p - (k : Int) * ((L : Int) + 1) → Gd L m lim (c :: rest) c e v → 0 ≤ c → p ≤ (m : Int) + L + 1 → Gd L m lim (dl L p k ++ c :: rest) p e (v + (k : Int) * lim)
  | 0, p, c, hc, g, h0, h1 => by
    have : c = p := by rw [hc]; simp
    subst this
    simpa [dl] using g
  | k + 1, p, c, hc, g, h0, h1 => by
    have hc' : c = (p - L - 1) - (k : Int) * ((L : Int) + 1) := by
      rw [hc, Int.natCast_add, Int.add_mul]
      simp
      omega
    have hk : 0 ≤ (k : Int) * ((L : Int) + 1) := Int.mul_nonneg (by omega) (by omega)
    have ih := dn_chain k (p - L - 1) c hc' g h0 (by omega)
    rw [dl_succ]
    have := ih.dn (by omega) h1
    rw [Int.natCast_add, Int.add_mul]
    have e2 : v + ((k : Int) * lim + ((1 : Nat) : Int) * lim) = v + (k : Int) * lim + lim := by
      simp
      omega
    rw [e2]
    exact this
/-- the two chains from a place -/
def toF (L : Nat) (p : Nat) : List Int := dl L (p : Int) (p / (L + 1) + 1) ++ (if p % (L + 1) = 0 then [] else rl ((p % (L + 1) : Nat) + 1) ((L : Int) + 2) ++ [0])
def toL (L m : Nat) (p : Nat) : List Int := if p ≤ m then (p : Int) :: rl ((p : Int) + 1) ((m : Int) + 2) else (p : Int) :: ((p : Int) - L - 1) :: rl ((p : Int) - L - 1 + 1) ((m : Int) + 2)
theorem dl_last {p : Int} {k : Nat} : dl L p (k + 1) = dl L p k ++ [p - (k : Int) * ((L : Int) + 1)] := by
  unfold dl
  rw [List.range_succ, List.map_append]
  rfl
theorem toF_gd {p : Nat} (hp : p ≤ m + L + 1) (hr : p % (L + 1) = 0 ∨ L ≤ m) : Gd L m lim (toF L p) p 0 (latB D L lim p + 2 * D) := by
  have hd := Nat.div_add_mod p (L + 1)
  have hmod := Nat.mod_lt p (show 0 < L + 1 by omega)
  have hc : (p : Int) = (((p / (L + 1) : Nat)) : Int) * ((L : Int) + 1) + ((p % (L + 1) : Nat) : Int) := by
    have : ((p : Nat) : Int) = (((L + 1) * (p / (L + 1)) + p % (L + 1) : Nat) : Int) := by rw [hd]
    rw [this, Int.natCast_add, cmul, Int.mul_comm]
    rfl
  unfold toF latB
  rw [dl_last, List.append_assoc]
  by_cases h0 : p % (L + 1) = 0
  · rw [if_pos h0]
    have hl : lots L p = p / (L + 1) := by
      unfold lots
      have h1 : (p + L) / (L + 1) = p / (L + 1) := by
        rw [show p + L = L + (L + 1) * (p / (L + 1)) by omega, Nat.add_mul_div_left _ _ (by omega), Nat.div_eq_of_lt (by omega), Nat.zero_add]
      exact h1
    rw [hl]
    rw [h0] at hc
    have g := dn_chain (L := L) (m := m) (lim := lim) (rest := []) (p / (L + 1)) (p : Int) ((p : Int) - ((p / (L + 1) : Nat) : Int) * ((L : Int) + 1)) rfl (Gd.one (by omega) (by omega)) (by omega) (by omega)
    have e0 : (p : Int) - ((p / (L + 1) : Nat) : Int) * ((L : Int) + 1) = 0 := by omega
    rw [e0] at g
    rw [e0]
    have ev : ((p / (L + 1) : Nat) : Int) * lim - 2 * D - (((p / (L + 1) : Nat) : Int) * ((L + 1 : Nat) : Int) - (p : Int)) + 2 * D = 0 + ((p / (L + 1) : Nat) : Int) * lim := by
      rw [show ((L + 1 : Nat) : Int) = (L : Int) + 1 from rfl]
      omega
    rw [ev]
    exact g
  · rw [if_neg h0]
    have hL : L ≤ m := by
      rcases hr with h | h
      · exact absurd h h0
      · exact h
    generalize hrr : p % (L + 1) = r at *
    have hl : lots L p = p / (L + 1) + 1 := by
      unfold lots
      have h1 : p + L = (r - 1) + (L + 1) * (p / (L + 1) + 1) := by
        rw [Nat.mul_add]
        omega
      rw [h1, Nat.add_mul_div_left _ _ (by omega), Nat.div_eq_of_lt (by omega), Nat.zero_add]
    rw [hl]
    have gz : Gd L m lim [0] (((L : Int) + 1) - L - 1) 0 0 := by
      rw [show ((L : Int) + 1) - L - 1 = 0 by omega]
      exact Gd.one (by omega) (by omega)
    have g1 := gz.dn (p := (L : Int) + 1) (by omega) (by omega)
    have g2 := up_chain (L := L) (m := m) (lim := lim) (rest := [0]) (L - r) ((r : Int) + 1) (by rw [show (r : Int) + 1 + ((L - r : Nat) : Int) = (L : Int) + 1 by omega]; exact g1) (by omega) (by omega)
    rw [show (r : Int) + 1 + ((L - r : Nat) : Int) + 1 = (L : Int) + 2 by omega] at g2
    have g3 := g2.up (by omega) (by omega)
    have e0 : (p : Int) - ((p / (L + 1) : Nat) : Int) * ((L : Int) + 1) = (r : Int) := by omega
    have g := dn_chain (L := L) (m := m) (lim := lim) (p / (L + 1)) (p : Int) (r : Int) e0.symm g3 (by omega) (by omega)
    rw [e0]
    have ev : ((p / (L + 1) + 1 : Nat) : Int) * lim - 2 * D - (((p / (L + 1) + 1 : Nat) : Int) * ((L + 1 : Nat) : Int) - (p : Int)) + 2 * D = 0 + lim - ((L - r : Nat) : Int) - 1 + ((p / (L + 1) : Nat) : Int) * lim := by
      rw [show ((L + 1 : Nat) : Int) = (L : Int) + 1 from rfl, show ((p / (L + 1) + 1 : Nat) : Int) = ((p / (L + 1) : Nat) : Int) + 1 from rfl, Int.add_mul, Int.add_mul]
      omega
    rw [ev]
    exact g
theorem toL_gd {p : Nat} (h1 : m < p) (h2 : p ≤ m + L + 1) (h3 : L + 2 ≤ p) : Gd L m lim (toL L m p) p ((m : Int) + 1) (lim - ((m : Int) + 1 - ((p : Int) - L - 1))) := by
  unfold toL
  rw [if_neg (by omega)]
  have g0 : Gd L m lim [(m : Int) + 1] ((m : Int) + 1) ((m : Int) + 1) 0 := Gd.one (by omega) (by omega)
  have g1 := up_chain (L := L) (m := m) (lim := lim) (rest := []) (m + L + 2 - p) ((p : Int) - L - 1) (by rw [show (p : Int) - L - 1 + ((m + L + 2 - p : Nat) : Int) = (m : Int) + 1 by omega]; exact g0) (by omega) (by omega)
  rw [List.append_nil, show (p : Int) - L - 1 + ((m + L + 2 - p : Nat) : Int) + 1 = (m : Int) + 2 by omega, rl_cons (by omega)] at g1
  have g2 := g1.dn (by omega) (by omega)
  rw [show lim - ((m : Int) + 1 - ((p : Int) - L - 1)) = 0 - ((m + L + 2 - p : Nat) : Int) + lim by omega]
  exact g2
theorem latB_add {p : Nat} : latB D L lim (p + (L + 1)) = latB D L lim p + lim := by
  unfold latB
  rw [lots_add, show ((lots L p + 1 : Nat) : Int) = (lots L p : Int) + 1 from rfl, Int.add_mul, Int.add_mul]
  omega
theorem latB_succ {p : Nat} (h : (L : Int) + 1 ≤ lim) : latB D L lim p + 1 ≤ latB D L lim (p + 1) := by
  unfold latB
  rcases lots_succ (L := L) (p := p) with e | ⟨e, _⟩
  · rw [e]
    omega
  · rw [e, show ((lots L p + 1 : Nat) : Int) = (lots L p : Int) + 1 from rfl, Int.add_mul, Int.add_mul]
    omega
theorem found (k : LullOk D T L Z) (hm : (m : Int) ≤ Z - 1) (h : ∀ p : Nat, (p = 1 ∨ (m + 1 ≤ p ∧ p ≤ m + L + 1)) → barsB D T L Z lim m (toF L p) = false ∧ barsB D T L Z lim m (toL L m p) = false) : Ok D T L Z lim m := by
  have hl := k.l
  have kn0 : kn D T Z m 0 = -2 * D := by
    unfold kn
    rw [if_neg (by omega), if_neg (by omega)]
  have knm : kn D T Z m ((m : Int) + 1) = Z := by
    unfold kn
    rw [if_pos (by omega), show (m : Int) + 1 - m - 1 = 0 by omega]
    simp
  have knp : ∀ p : Nat, m < p → kn D T Z m (p : Int) = Z + ((p - m - 1 : Nat) : Int) * T := fun p hp => by
    unfold kn
    rw [if_pos (by omega), show ((p - m - 1 : Nat) : Int) = (p : Int) - m - 1 by omega]
  have hA : ∀ p : Nat, (p = 1 ∨ (m + 1 ≤ p ∧ p ≤ m + L + 1)) → (p % (L + 1) = 0 ∨ L ≤ m) → kn D T Z m (p : Int) ≤ latB D L lim p := fun p hp hr => by
    have b := (h p hp).1
    have g := toF_gd (D := D) (lim := lim) (L := L) (m := m) (p := p) (by omega) hr
    rw [g.bars (by omega) (by omega), kn0, decide_eq_false_iff_not] at b
    omega
  have hB : ∀ p : Nat, m + 1 ≤ p → p ≤ m + L + 1 → L + 2 ≤ p → kn D T Z m (p : Int) ≤ Z + lim - ((m : Int) + 1 - ((p : Int) - L - 1)) := fun p h1 h2 h3 => by
    have b := (h p (.inr ⟨h1, h2⟩)).2
    have g := toL_gd (lim := lim) (L := L) (m := m) (p := p) (by omega) h2 h3
    rw [g.bars (by omega) (by omega), knm, decide_eq_false_iff_not] at b
    omega
  have stl : ∀ {i : Nat}, 1 ≤ i → i ≤ m → st D T Z (lat D L Z lim m) i = latP D L Z lim m i := fun {i} h1 h2 => by
    rw [st_in h1 (by rw [lat_len]; exact h2), lat_get (by omega), show i - 1 + 1 = i by omega]
  have sto : ∀ {i : Nat}, m < i → st D T Z (lat D L Z lim m) i = kn D T Z m (i : Int) := fun {i} h1 => by
    rw [knp i h1]
    have e : i = (lat D L Z lim m).length + 1 + (i - m - 1) := by rw [lat_len]; omega
    have := st_out (D := D) (T := T) (Z := Z) (S := lat D L Z lim m) (i := i - m - 1)
    rw [← e] at this
    exact this
  have low : L + 1 ≤ m → 1 ≤ latB D L lim 1 ∧ (L : Int) + 1 ≤ lim := fun hLm => by
    have a := hA 1 (.inl rfl) (.inr (by omega))
    have e : kn D T Z m ((1 : Nat) : Int) = 1 := by
      unfold kn
      rw [if_neg (by omega), if_pos (by omega)]
    rw [e] at a
    refine ⟨a, ?_⟩
    have hd := k.d
    unfold latB at a
    rw [show lots L 1 = 1 by unfold lots; rw [Nat.add_comm]; exact Nat.div_self (by omega)] at a
    omega
  refine ⟨fun i hi => ?_, fun i hi => ?_⟩
  · rw [lat_len] at hi
    rw [lat_get hi]
    refine ⟨?_, ?_⟩
    · by_cases h0 : i = 0
      · subst h0
        show 0 + 1 ≤ _
        refine latP_ge ?_ fun hLm => ?_
        · unfold latA
          omega
        · have := (low hLm).1
          simpa using this
      · have e : prev (lat D L Z lim m) i = latP D L Z lim m i := by
          unfold prev
          rw [if_neg h0, lat_get (by omega), show i - 1 + 1 = i by omega]
        rw [e]
        refine latP_ge ?_ fun hLm => ?_
        · have := latP_leA (D := D) (L := L) (Z := Z) (lim := lim) (m := m) (p := i)
          unfold latA at this ⊢
          omega
        · have a := latP_leB (D := D) (Z := Z) (lim := lim) (p := i) hLm
          have b := latB_succ (D := D) (p := i) (low hLm).2
          omega
    · have := latP_leA (D := D) (L := L) (Z := Z) (lim := lim) (m := m) (p := i + 1)
      unfold latA at this
      omega
  · rw [lat_len] at hi
    by_cases h0 : i = 0
    · subst h0
      rw [st_zero, Nat.zero_add]
      have e1 : latB D L lim (L + 1) = lim - 2 * D := by
        unfold latB
        rw [show lots L (L + 1) = 1 by unfold lots; rw [show L + 1 + L = L + (L + 1) * 1 by omega, Nat.add_mul_div_left _ _ (by omega), Nat.div_eq_of_lt (by omega)]]
        omega
      by_cases hLm : L + 1 ≤ m
      · rw [stl (by omega) hLm]
        have := latP_leB (D := D) (Z := Z) (lim := lim) (p := L + 1) hLm
        omega
      · rw [sto (by omega)]
        have := hA (L + 1) (.inr ⟨by omega, by omega⟩) (.inl (Nat.mod_self _))
        omega
    · rw [stl (i := i) (by omega) hi]
      have goal : st D T Z (lat D L Z lim m) (i + (L + 1)) - lim ≤ latP D L Z lim m i := by
        by_cases hj : i + (L + 1) ≤ m
        · have hLm : L + 1 ≤ m := by omega
          rw [stl (by omega) hj]
          refine latP_ge ?_ fun _ => ?_
          · have a := latP_leA (D := D) (L := L) (Z := Z) (lim := lim) (m := m) (p := i + (L + 1))
            have b := (low hLm).2
            unfold latA at a ⊢
            omega
          · have a := latP_leB (D := D) (Z := Z) (lim := lim) (p := i + (L + 1)) hLm
            rw [latB_add] at a
            omega
        · rw [sto (by omega)]
          refine latP_ge ?_ fun hLm => ?_
          · have b := hB (i + (L + 1)) (by omega) (by omega) (by omega)
            unfold latA
            omega
          · have a := hA (i + (L + 1)) (.inr ⟨by omega, by omega⟩) (.inr (by omega))
            rw [latB_add] at a
            omega
      omega
end K33

set_option Elab.async false
namespace K33
open L2
variable {D T Z lim : Int} {L m : Nat}
def prs (C : List Int) : List (Int × Int) := C.zip C.tail
theorem ok2_prs : ∀ C : List Int, ok2 L m C = (prs C).all fun x => stepOk L m x.1 x.2
  | [] => rfl
  | [_] => rfl
  | p :: q :: l => by
    show (stepOk L m p q && ok2 L m (q :: l)) = (stepOk L m p q && ((q :: l).zip l).all fun x => stepOk L m x.1 x.2)
    rw [ok2_prs (q :: l)]
    rfl
def onN (C : List Int) : Nat := ((prs C).filter fun x => decide (x.2 > x.1)).length
theorem cost_prs : ∀ (p : Int) (l : List Int), cost lim (p :: l) = ((l.length : Int) - onN (p :: l)) * lim - onN (p :: l)
  | p, [] => by
    show (0 : Int) = (((0 : Nat) : Int) - ((0 : Nat) : Int)) * lim - ((0 : Nat) : Int)
    simp
  | p, q :: l => by
    show (if q > p then -1 else lim) + cost lim (q :: l) = _
    rw [cost_prs q l]
    have e : onN (p :: q :: l) = (if q > p then 1 else 0) + onN (q :: l) := by
      show (((p, q) :: (q :: l).zip l).filter fun x => decide (x.2 > x.1)).length = _
      rw [List.filter_cons]
      by_cases h : q > p
      · rw [decide_eq_true h, if_pos rfl, if_pos h, List.length_cons, Nat.add_comm]
        rfl
      · rw [decide_eq_false h, if_neg (by decide), if_neg h, Nat.zero_add]
        rfl
    rw [e, List.length_cons]
    by_cases h : q > p
    · rw [if_pos h, if_pos h]
      have e1 : ((l.length + 1 : Nat) : Int) - ((1 + onN (q :: l) : Nat) : Int) = (l.length : Int) - onN (q :: l) := by omega
      rw [e1]
      omega
    · rw [if_neg h, if_neg h, Nat.zero_add]
      have e1 : ((l.length + 1 : Nat) : Int) - (onN (q :: l) : Int) = ((l.length : Int) - onN (q :: l)) + 1 := by omega
      rw [e1, Int.add_mul]
      omega
/-- what may stand in a chain that is handed in -/
def Fx (x : V) : Prop := (∃ n, x = .int n) ∨ (∃ b, x = .bl b) ∨ x = .non
def toNs : List V → Option (List Int)
  | [] => some []
  | .int n :: l => (toNs l).map (n :: ·)
  | _ :: _ => none
theorem toNs_int : ∀ ns : List Int, toNs (ns.map V.int) = some ns
  | [] => rfl
  | n :: ns => by
    show (toNs (ns.map V.int)).map (n :: ·) = _
    rw [toNs_int ns]
    rfl
theorem toNs_some : ∀ {xs : List V} {ns : List Int}, toNs xs = some ns → xs = ns.map V.int
  | [], _, h => by cases h; rfl
  | x :: l, ns, h => by
    cases x with
    | int n =>
      have h' : (toNs l).map (n :: ·) = some ns := h
      cases hl : toNs l with
      | none => rw [hl] at h'; cases h'
      | some ms =>
        rw [hl] at h'
        cases h'
        rw [toNs_some hl]
        rfl
    | _ => cases h
theorem all_betw {xs : List V} (h : (xs.all fun x => betw x 0 ((m : Int) + L + 1)) = true) : ∃ ns : List Int, xs = ns.map V.int ∧ ns.all (inR L m) = true := by
  induction xs with
  | nil => exact ⟨[], rfl, rfl⟩
  | cons x l ih =>
    have h' := Bool.and_eq_true_iff.mp h
    obtain ⟨ns, rfl, hn⟩ := ih h'.2
    cases x with
    | int n => exact ⟨n :: ns, rfl, Bool.and_eq_true_iff.mpr ⟨h'.1, hn⟩⟩
    | _ => cases h'.1
def chainB (L m : Nat) : List Int → Bool
  | [] => false
  | p :: l => ((p :: l).all (inR L m)) && (!(decide (1 < p) && decide (p ≤ (m : Int))) && (!(decide (1 ≤ lastI p l) && decide (lastI p l ≤ (m : Int))) && ok2 L m (p :: l)))
def chainV (L m : Nat) : Option (List V) → Bool
  | none => false
  | some xs => match toNs xs with | none => false | some ns => chainB L m ns
def barsV (D T : Int) (L : Nat) (Z lim : Int) (m : Nat) : Option (List V) → Bool
  | none => false
  | some xs => match toNs xs with | none => false | some ns => barsB D T L Z lim m ns
theorem barsB_chain (p : Int) (l : List Int) : barsB D T L Z lim m (p :: l) = (chainB L m (p :: l) && decide (kn D T Z m p > kn D T Z m (lastI p l) + cost lim (p :: l))) := by
  show _ = ((((p :: l).all (inR L m)) && (!(decide (1 < p) && decide (p ≤ (m : Int))) && (!(decide (1 ≤ lastI p l) && decide (lastI p l ≤ (m : Int))) && ok2 L m (p :: l)))) && _)
  simp only [Bool.and_assoc]
  rfl
theorem chainV_some (xs : List V) : chainV L m (some xs) = match toNs xs with | none => false | some ns => chainB L m ns := rfl
theorem barsV_some (xs : List V) : barsV D T L Z lim m (some xs) = match toNs xs with | none => false | some ns => barsB D T L Z lim m ns := rfl
theorem chain_no {xs : List V} (h : (xs.all fun x => betw x 0 ((m : Int) + L + 1)) = false) : chainV L m (some xs) = false := by
  rw [chainV_some]
  cases hn : toNs xs with
  | none => rfl
  | some ns =>
    rw [toNs_some hn] at h
    show chainB L m ns = false
    cases ns with
    | nil => rfl
    | cons p l =>
      have : ((p :: l).all (inR L m)) = false := by
        rw [← h, List.all_map]
        rfl
      show ((p :: l).all (inR L m) && _) = false
      rw [this]
      rfl
theorem bars_of_chain {xo : Option (List V)} (h : chainV L m xo = false) : barsV D T L Z lim m xo = false := by
  cases xo with
  | none => rfl
  | some xs =>
    rw [chainV_some] at h
    rw [barsV_some]
    cases hn : toNs xs with
    | none => rfl
    | some ns =>
      rw [hn] at h
      have h' : chainB L m ns = false := h
      show barsB D T L Z lim m ns = false
      cases ns with
      | nil => rfl
      | cons p l => rw [barsB_chain, h']; rfl
end K33

set_option Elab.async false
set_option maxRecDepth 100000
set_option maxHeartbeats 4000000
namespace K33
open PySem PySem.Spec PyProof.Rows L2
def top (i : Nat) : Stmt := PySem.Challenge.pw_wholeline_k34_whole_chains_that_bar_sign.main.body.getD i (.Pass ⟨0, 0, 0, 0⟩)
abbrev s_BadPart_init : Stmt := inClass (top 3) 0
abbrev nm_BadPart_init : List Str := ["self", "part"]
abbrev pm_BadPart_init : List Str := ["self", "part"]
theorem sc_BadPart_init : FnScope nm_BadPart_init pm_BadPart_init (defScope s_BadPart_init) := ⟨rfl, rfl, rfl, by decide +kernel, rfl, by decide +kernel, by decide +kernel⟩

abbrev s_BadNumber_init : Stmt := inClass (top 4) 0
abbrev nm_BadNumber_init : List Str := ["self", "number"]
abbrev pm_BadNumber_init : List Str := ["self", "number"]
theorem sc_BadNumber_init : FnScope nm_BadNumber_init pm_BadNumber_init (defScope s_BadNumber_init) := ⟨rfl, rfl, rfl, by decide +kernel, rfl, by decide +kernel, by decide +kernel⟩

abbrev s_is_integer : Stmt := top 6
abbrev nm_is_integer : List Str := ["value"]
abbrev pm_is_integer : List Str := ["value"]
theorem sc_is_integer : FnScope nm_is_integer pm_is_integer (defScope s_is_integer) := ⟨rfl, rfl, rfl, by decide +kernel, rfl, by decide +kernel, by decide +kernel⟩

abbrev s_is_between : Stmt := top 7
abbrev nm_is_between : List Str := ["value", "low", "high"]
abbrev pm_is_between : List Str := ["value", "low", "high"]
theorem sc_is_between : FnScope nm_is_between pm_is_between (defScope s_is_between) := ⟨rfl, rfl, rfl, by decide +kernel, rfl, by decide +kernel, by decide +kernel⟩

abbrev s_is_index : Stmt := top 8
abbrev nm_is_index : List Str := ["value", "many"]
abbrev pm_is_index : List Str := ["value", "many"]
theorem sc_is_index : FnScope nm_is_index pm_is_index (defScope s_is_index) := ⟨rfl, rfl, rfl, by decide +kernel, rfl, by decide +kernel, by decide +kernel⟩

abbrev s_lesser : Stmt := top 9
abbrev nm_lesser : List Str := ["one", "other"]
abbrev pm_lesser : List Str := ["one", "other"]
theorem sc_lesser : FnScope nm_lesser pm_lesser (defScope s_lesser) := ⟨rfl, rfl, rfl, by decide +kernel, rfl, by decide +kernel, by decide +kernel⟩

abbrev s_check_lull : Stmt := top 15
abbrev nm_check_lull : List Str := ["delay", "turn", "losses"]
abbrev pm_check_lull : List Str := ["delay", "turn", "losses"]
theorem sc_check_lull : FnScope nm_check_lull pm_check_lull (defScope s_check_lull) := ⟨rfl, rfl, rfl, by decide +kernel, rfl, by decide +kernel, by decide +kernel⟩

abbrev s_check_quiet : Stmt := top 16
abbrev nm_check_quiet : List Str := ["quiet"]
abbrev pm_check_quiet : List Str := ["quiet"]
theorem sc_check_quiet : FnScope nm_check_quiet pm_check_quiet (defScope s_check_quiet) := ⟨rfl, rfl, rfl, by decide +kernel, rfl, by decide +kernel, by decide +kernel⟩

abbrev s_Lull_init : Stmt := inClass (top 17) 0
abbrev nm_Lull_init : List Str := ["self", "delay", "turn", "losses", "quiet"]
abbrev pm_Lull_init : List Str := ["self", "delay", "turn", "losses", "quiet"]
theorem sc_Lull_init : FnScope nm_Lull_init pm_Lull_init (defScope s_Lull_init) := ⟨rfl, rfl, rfl, by decide +kernel, rfl, by decide +kernel, by decide +kernel⟩

abbrev s_Lull_eq : Stmt := inClass (top 17) 1
abbrev nm_Lull_eq : List Str := ["self", "other"]
abbrev pm_Lull_eq : List Str := ["self", "other"]
theorem sc_Lull_eq : FnScope nm_Lull_eq pm_Lull_eq (defScope s_Lull_eq) := ⟨rfl, rfl, rfl, by decide +kernel, rfl, by decide +kernel, by decide +kernel⟩

abbrev s_is_sign_behind : Stmt := top 19
abbrev nm_is_sign_behind : List Str := ["lull", "signs", "index", "least"]
abbrev pm_is_sign_behind : List Str := ["lull", "signs", "index"]
theorem sc_is_sign_behind : FnScope nm_is_sign_behind pm_is_sign_behind (defScope s_is_sign_behind) := ⟨rfl, rfl, rfl, by decide +kernel, rfl, by decide +kernel, by decide +kernel⟩

abbrev s_are_signs : Stmt := top 20
abbrev nm_are_signs : List Str := ["lull", "value", "index"]
abbrev pm_are_signs : List Str := ["lull", "value"]
theorem sc_are_signs : FnScope nm_are_signs pm_are_signs (defScope s_are_signs) := ⟨rfl, rfl, rfl, by decide +kernel, rfl, by decide +kernel, by decide +kernel⟩

abbrev s_stops_of : Stmt := top 21
abbrev nm_stops_of : List Str := ["lull", "signs", "sent", "lost"]
abbrev pm_stops_of : List Str := ["lull", "signs"]
theorem sc_stops_of : FnScope nm_stops_of pm_stops_of (defScope s_stops_of) := ⟨rfl, rfl, rfl, by decide +kernel, rfl, by decide +kernel, by decide +kernel⟩

abbrev s_widest : Stmt := top 22
abbrev nm_widest : List Str := ["lull", "told", "behind", "sooner", "later"]
abbrev pm_widest : List Str := ["lull", "told"]
theorem sc_widest : FnScope nm_widest pm_widest (defScope s_widest) := ⟨rfl, rfl, rfl, by decide +kernel, rfl, by decide +kernel, by decide +kernel⟩

abbrev s_check_limit : Stmt := top 25
abbrev nm_check_limit : List Str := ["limit"]
abbrev pm_check_limit : List Str := ["limit"]
theorem sc_check_limit : FnScope nm_check_limit pm_check_limit (defScope s_check_limit) := ⟨rfl, rfl, rfl, by decide +kernel, rfl, by decide +kernel, by decide +kernel⟩

abbrev s_signs_do : Stmt := top 26
abbrev nm_signs_do : List Str := ["lull", "limit", "signs"]
abbrev pm_signs_do : List Str := ["lull", "limit", "signs"]
theorem sc_signs_do : FnScope nm_signs_do pm_signs_do (defScope s_signs_do) := ⟨rfl, rfl, rfl, by decide +kernel, rfl, by decide +kernel, by decide +kernel⟩

abbrev s_latest_signs : Stmt := top 27
abbrev nm_latest_signs : List Str := ["lull", "limit", "many", "between", "signs", "place", "latest", "lots"]
abbrev pm_latest_signs : List Str := ["lull", "limit", "many"]
theorem sc_latest_signs : FnScope nm_latest_signs pm_latest_signs (defScope s_latest_signs) := ⟨rfl, rfl, rfl, by decide +kernel, rfl, by decide +kernel, by decide +kernel⟩

abbrev s_best_signs : Stmt := top 28
abbrev nm_best_signs : List Str := ["lull", "limit", "low", "high", "middle"]
abbrev pm_best_signs : List Str := ["lull", "limit"]
theorem sc_best_signs : FnScope nm_best_signs pm_best_signs (defScope s_best_signs) := ⟨rfl, rfl, rfl, by decide +kernel, rfl, by decide +kernel, by decide +kernel⟩

abbrev s_check_count : Stmt := top 30
abbrev nm_check_count : List Str := ["lull", "count"]
abbrev pm_check_count : List Str := ["lull", "count"]
theorem sc_check_count : FnScope nm_check_count pm_check_count (defScope s_check_count) := ⟨rfl, rfl, rfl, by decide +kernel, rfl, by decide +kernel, by decide +kernel⟩

abbrev s_is_step : Stmt := top 31
abbrev nm_is_step : List Str := ["lull", "count", "place", "further"]
abbrev pm_is_step : List Str := ["lull", "count", "place", "further"]
theorem sc_is_step : FnScope nm_is_step pm_is_step (defScope s_is_step) := ⟨rfl, rfl, rfl, by decide +kernel, rfl, by decide +kernel, by decide +kernel⟩

abbrev s_is_chain : Stmt := top 32
abbrev nm_is_chain : List Str := ["lull", "count", "value", "place", "further"]
abbrev pm_is_chain : List Str := ["lull", "count", "value"]
theorem sc_is_chain : FnScope nm_is_chain pm_is_chain (defScope s_is_chain) := ⟨rfl, rfl, rfl, by decide +kernel, rfl, by decide +kernel, by decide +kernel⟩

abbrev s_known_stop : Stmt := top 33
abbrev nm_known_stop : List Str := ["lull", "count", "place"]
abbrev pm_known_stop : List Str := ["lull", "count", "place"]
theorem sc_known_stop : FnScope nm_known_stop pm_known_stop (defScope s_known_stop) := ⟨rfl, rfl, rfl, by decide +kernel, rfl, by decide +kernel, by decide +kernel⟩

abbrev s_bars : Stmt := top 34
abbrev nm_bars : List Str := ["lull", "limit", "count", "value", "on", "back", "latest", "place", "further"]
abbrev pm_bars : List Str := ["lull", "limit", "count", "value"]
theorem sc_bars : FnScope nm_bars pm_bars (defScope s_bars) := ⟨rfl, rfl, rfl, by decide +kernel, rfl, by decide +kernel, by decide +kernel⟩

abbrev s_bars_signs : Stmt := top 35
abbrev nm_bars_signs : List Str := ["lull", "limit", "count", "chain"]
abbrev pm_bars_signs : List Str := ["lull", "limit", "count", "chain"]
theorem sc_bars_signs : FnScope nm_bars_signs pm_bars_signs (defScope s_bars_signs) := ⟨rfl, rfl, rfl, by decide +kernel, rfl, by decide +kernel, by decide +kernel⟩

abbrev s_chains_from : Stmt := top 36
abbrev nm_chains_from : List Str := ["lull", "count", "place", "between", "to_first", "to_last"]
abbrev pm_chains_from : List Str := ["lull", "count", "place"]
theorem sc_chains_from : FnScope nm_chains_from pm_chains_from (defScope s_chains_from) := ⟨rfl, rfl, rfl, by decide +kernel, rfl, by decide +kernel, by decide +kernel⟩

abbrev s_barring_chain : Stmt := top 37
abbrev nm_barring_chain : List Str := ["lull", "limit", "count", "place", "chain"]
abbrev pm_barring_chain : List Str := ["lull", "limit", "count"]
theorem sc_barring_chain : FnScope nm_barring_chain pm_barring_chain (defScope s_barring_chain) := ⟨rfl, rfl, rfl, by decide +kernel, rfl, by decide +kernel, by decide +kernel⟩

abbrev s_shows_best : Stmt := top 38
abbrev nm_shows_best : List Str := ["lull", "limit", "signs", "chain"]
abbrev pm_shows_best : List Str := ["lull", "limit", "signs", "chain"]
theorem sc_shows_best : FnScope nm_shows_best pm_shows_best (defScope s_shows_best) := ⟨rfl, rfl, rfl, by decide +kernel, rfl, by decide +kernel, by decide +kernel⟩

abbrev s__law_pool : Stmt := top 40
abbrev nm__law_pool : List Str := ["_law_script", "_law_k", "_law_cell", "_law_big", "_law_mixed"]
abbrev pm__law_pool : List Str := ["_law_script", "_law_k"]
theorem sc__law_pool : FnScope nm__law_pool pm__law_pool (defScope s__law_pool) := ⟨rfl, rfl, rfl, by decide +kernel, rfl, by decide +kernel, by decide +kernel⟩

abbrev s__law_take : Stmt := top 41
abbrev nm__law_take : List Str := ["_law_pool_here", "_law_bound", "_law_result"]
abbrev pm__law_take : List Str := ["_law_pool_here", "_law_bound"]
theorem sc__law_take : FnScope nm__law_take pm__law_take (defScope s__law_take) := ⟨rfl, rfl, rfl, by decide +kernel, rfl, by decide +kernel, by decide +kernel⟩

abbrev s__law_one : Stmt := top 42
abbrev nm__law_one : List Str := ["_law_pool_here", "_law_things"]
abbrev pm__law_one : List Str := ["_law_pool_here", "_law_things"]
theorem sc__law_one : FnScope nm__law_one pm__law_one (defScope s__law_one) := ⟨rfl, rfl, rfl, by decide +kernel, rfl, by decide +kernel, by decide +kernel⟩

abbrev s__law_stops : Stmt := top 43
abbrev nm__law_stops : List Str := ["_law_plain", "_law_signs", "_law_delay", "_law_turn", "_law_losses", "_law_quiet", "_law_at"]
abbrev pm__law_stops : List Str := ["_law_plain", "_law_signs"]
theorem sc__law_stops : FnScope nm__law_stops pm__law_stops (defScope s__law_stops) := ⟨rfl, rfl, rfl, by decide +kernel, rfl, by decide +kernel, by decide +kernel⟩

abbrev s__law_gap : Stmt := top 44
abbrev nm__law_gap : List Str := ["_law_plain", "_law_signs", "_law_found", "_law_step", "_law_best", "_law_place"]
abbrev pm__law_gap : List Str := ["_law_plain", "_law_signs"]
theorem sc__law_gap : FnScope nm__law_gap pm__law_gap (defScope s__law_gap) := ⟨rfl, rfl, rfl, by decide +kernel, rfl, by decide +kernel, by decide +kernel⟩

abbrev s__law_subsets : Stmt := top 45
abbrev nm__law_subsets : List Str := ["_law_quiet", "_law_count", "_law_found", "_law_turn", "_law_more", "_law_signs", "_law_at"]
abbrev pm__law_subsets : List Str := ["_law_quiet", "_law_count"]
theorem sc__law_subsets : FnScope nm__law_subsets pm__law_subsets (defScope s__law_subsets) := ⟨rfl, rfl, rfl, by decide +kernel, rfl, by decide +kernel, by decide +kernel⟩

abbrev s__law_stop : Stmt := top 46
abbrev nm__law_stop : List Str := ["_law_plain", "_law_place", "_law_count"]
abbrev pm__law_stop : List Str := ["_law_plain", "_law_place", "_law_count"]
theorem sc__law_stop : FnScope nm__law_stop pm__law_stop (defScope s__law_stop) := ⟨rfl, rfl, rfl, by decide +kernel, rfl, by decide +kernel, by decide +kernel⟩

abbrev s__law_due : Stmt := top 47
abbrev nm__law_due : List Str := ["_law_plain", "_law_limit", "_law_count", "_law_chain_here", "_law_step", "_law_place", "_law_total", "_law_at", "_law_first", "_law_last"]
abbrev pm__law_due : List Str := ["_law_plain", "_law_limit", "_law_count", "_law_chain_here"]
theorem sc__law_due : FnScope nm__law_due pm__law_due (defScope s__law_due) := ⟨rfl, rfl, rfl, by decide +kernel, rfl, by decide +kernel, by decide +kernel⟩

abbrev s__law_chain : Stmt := top 48
abbrev nm__law_chain : List Str := ["_law_pool_here", "_law_plain", "_law_count", "_law_told", "_law_spot", "_law_odd", "_law_place", "_law_found", "_law_turn"]
abbrev pm__law_chain : List Str := ["_law_pool_here", "_law_plain", "_law_count", "_law_told"]
theorem sc__law_chain : FnScope nm__law_chain pm__law_chain (defScope s__law_chain) := ⟨rfl, rfl, rfl, by decide +kernel, rfl, by decide +kernel, by decide +kernel⟩

abbrev s__law_does : Stmt := top 49
abbrev nm__law_does : List Str := ["_law_plain", "_law_limit", "_law_count", "_law_signs"]
abbrev pm__law_does : List Str := ["_law_plain", "_law_limit", "_law_count"]
theorem sc__law_does : FnScope nm__law_does pm__law_does (defScope s__law_does) := ⟨rfl, rfl, rfl, by decide +kernel, rfl, by decide +kernel, by decide +kernel⟩

abbrev s__law_count_right : Stmt := top 50
abbrev nm__law_count_right : List Str := ["_law_pool_here", "_law_plain", "_law_lull", "_law_limit", "_law_count", "_law_told", "_law_does_here", "_law_turn", "_law_chain_here", "_law_due_here"]
abbrev pm__law_count_right : List Str := ["_law_pool_here", "_law_plain", "_law_lull", "_law_limit", "_law_count"]
theorem sc__law_count_right : FnScope nm__law_count_right pm__law_count_right (defScope s__law_count_right) := ⟨rfl, rfl, rfl, by decide +kernel, rfl, by decide +kernel, by decide +kernel⟩

abbrev s__law_best_right : Stmt := top 51
abbrev nm__law_best_right : List Str := ["_law_lull", "_law_limit", "_law_count", "_law_signs", "_law_chain_here"]
abbrev pm__law_best_right : List Str := ["_law_lull", "_law_limit", "_law_count"]
theorem sc__law_best_right : FnScope nm__law_best_right pm__law_best_right (defScope s__law_best_right) := ⟨rfl, rfl, rfl, by decide +kernel, rfl, by decide +kernel, by decide +kernel⟩

abbrev s_law : Stmt := top 52
abbrev nm_law : List Str := ["_law_script", "_law_k", "_law_pool_here", "_law_delay", "_law_plain", "_law_lull", "_law_limit", "_law_count", "_law_function", "e"]
abbrev pm_law : List Str := ["_law_script"]
theorem sc_law : FnScope nm_law pm_law (defScope s_law) := ⟨rfl, rfl, rfl, by decide +kernel, rfl, by decide +kernel, by decide +kernel⟩

structure Ad where
  (BadNumber WholeError Lull : Addr)
structure Txt (K : PySem.W.Frag) (mg : Str → Option Value) (A : Ad) : Prop where
  n_isinstance : mg "isinstance" = none
  n_int : mg "int" = none
  n_bool : mg "bool" = none
  n_list : mg "list" = none
  n_tuple : mg "tuple" = none
  n_len : mg "len" = none
  n_range : mg "range" = none
  n_zip : mg "zip" = none
  n_max : mg "max" = none
  n_min : mg "min" = none
  n_all : mg "all" = none
  g_MOST_DELAY : ∃ t, mg "MOST_DELAY" = some (.int 50 t)
  g_MOST_TURN : ∃ t, mg "MOST_TURN" = some (.int 200 t)
  g_MOST_QUIET : ∃ t, mg "MOST_QUIET" = some (.int 500 t)
  g_MOST_LOST : ∃ t, mg "MOST_LOST" = some (.int 3 t)
  g_MOST_LIMIT : ∃ t, mg "MOST_LIMIT" = some (.int 20000 t)
  Lull : ClsX K mg "Lull" A.Lull
  c_delay : NoAttr K A.Lull "delay"
  c_turn : NoAttr K A.Lull "turn"
  c_losses : NoAttr K A.Lull "losses"
  c_quiet : NoAttr K A.Lull "quiet"
  BadNumber : XAt K mg "BadNumber" "number" A.BadNumber s_BadNumber_init "BadNumber.__init__"
  x_nn : PySem.W.exmOne K (.ref A.BadNumber) (.ref A.BadNumber) = some true
section
variable {P : Program} {w : World} {K : PySem.W.Frag} {mg : Str → Option Value} {base : Heap} {A : Ad}
theorem ok_xn {f : Addr} {fd : FuncData} (F : Fun K "__init__" "BadNumber.__init__" s_BadNumber_init f fd) (T : Txt K mg A) : FnOk P w K mg base CX0 1 f fd ["self", "number"] (spXI A.BadNumber "number") := by
  refine F.ok sc_BadNumber_init (fun vs H Q E h => ?_) (fun cdv A' outer s H vs Q E hr h => ?_)
  · obtain ⟨a, y, rfl, _⟩ := h
    rfl
  · obtain ⟨a, y, rfl, ha, q⟩ := h
    refine ⟨_, pss_one (ps_ost (pv 0) (pv 1)), ?_⟩
    exact ⟨_, rfl, _, rfl, a, A.BadNumber, rfl, T.BadNumber.ox, T.BadNumber.noA, .inl ⟨ha, fun dx h1 h2 => q dx h1 h2⟩⟩
def spInteger : Sp := fun vs H Q _ => ∃ v k, vs = [v] ∧ KndOf H v k ∧ Q (.bl (k.isInt && !k.isBool)) H
theorem ok_integer {f : Addr} {fd : FuncData} (F : Fun K "is_integer" "is_integer" s_is_integer f fd) (T : Txt K mg A) : FnOk P w K mg base CX0 1 f fd pm_is_integer spInteger := by
  refine F.ok sc_is_integer (fun vs H Q E h => ?_) (fun cdv A' outer s H vs Q E hr h => ?_)
  · obtain ⟨v, k, rfl, _⟩ := h
    rfl
  · obtain ⟨v, k, rfl, hk, q⟩ := h
    refine ⟨_, pss_one (ps_ret (pe_and (pe_callB call_isi (by rfl) T.n_isinstance (by decide +kernel) (pa_cons (pv 0) (pa_cons (pe_bltn (v := .ty "int") (by rfl) T.n_int (by decide +kernel) rfl) pa_nil))) (pe_one (pe_not (pe_callB call_isi (by rfl) T.n_isinstance (by decide +kernel) (pa_cons (pv 0) (pa_cons (pe_bltn (v := .ty "bool") (by rfl) T.n_bool (by decide +kernel) rfl) pa_nil))))))), ?_⟩
    refine ⟨v, rfl, v, .ty "int", .type k.name, .type "int", k.isInt, rfl, .ty _, knd_ty hk, knd_int, _, rfl, ?_⟩
    cases h1 : k.isInt with
    | true =>
      rw [h1] at q
      exact iteT ⟨v, rfl, v, .ty "bool", .type k.name, .type "bool", k.isBool, rfl, .ty _, knd_ty hk, knd_bool, _, rfl, q⟩
    | false =>
      rw [h1] at q
      exact iteF q
def spBetween : Sp := fun vs H Q _ => ∃ v k a b, vs = [v, .int a, .int b] ∧ KndOf H v k ∧ Q (.bl (betw v a b)) H
theorem ok_between {f : Addr} {fd : FuncData} (F : Fun K "is_between" "is_between" s_is_between f fd) (O_is_integer : Own P w K mg base CX0 "is_integer" 1 pm_is_integer spInteger) : FnOk P w K mg base CX0 2 f fd pm_is_between spBetween := by
  refine F.ok sc_is_between (fun vs H Q E h => ?_) (fun cdv A' outer s H vs Q E hr h => ?_)
  · obtain ⟨v, k, a, b, rfl, _⟩ := h
    rfl
  · obtain ⟨v, k, a, b, rfl, hk, q⟩ := h
    refine ⟨_, pss_one (ps_ret (pe_and (pe_own O_is_integer (hr.mono (by decide)) pass0 (pa_cons (pv 0) pa_nil)) (pe_one (pe_chain op_le op_le (pv 1) (pv 0) (pv 2))))), ?_⟩
    refine ⟨v, rfl, v, k, rfl, hk, _, rfl, ?_⟩
    cases h1 : (k.isInt && !k.isBool) with
    | true =>
      cases knd_yes h1
      obtain ⟨n, rfl⟩ := hk
      refine iteT ⟨_, rfl, _, rfl, _, _, rfl, rfl, _, rfl, ?_⟩
      rw [betw_int] at q
      cases h2 : decide (a ≤ n) with
      | true =>
        rw [h2] at q
        exact iteT ⟨_, rfl, _, _, rfl, rfl, q⟩
      | false =>
        rw [h2] at q
        exact iteF q
    | false =>
      rw [betw_not hk h1] at q
      exact iteF q
theorem bw {n a b : Int} (h1 : a ≤ n) (h2 : n ≤ b) : betw (.int n) a b = true := by
  rw [betw_int, decide_eq_true h1, decide_eq_true h2]
  rfl
theorem bt {v : V} {a b : Int} (h : betw v a b = true) : ∃ n, v = .int n ∧ a ≤ n ∧ n ≤ b := by
  cases v <;> first | (exact absurd h Bool.false_ne_true) | skip
  rename_i n
  have h' : (decide (a ≤ n) && decide (n ≤ b)) = true := h
  simp at h'
  exact ⟨n, rfl, h'.1, h'.2⟩
/-! the lull -/
def spCheckLull : Sp := fun vs H Q _ => ∃ d t l : Int, vs = [.int d, .int t, .int l] ∧ 1 ≤ d ∧ d ≤ 50 ∧ 2 * d ≤ t ∧ t ≤ 200 ∧ 1 ≤ l ∧ l ≤ 3 ∧ Q .non H
theorem ok_checkLull {f : Addr} {fd : FuncData} (F : Fun K "check_lull" "check_lull" s_check_lull f fd) (T : Txt K mg A) (O_is_between : Own P w K mg base CX0 "is_between" 2 pm_is_between spBetween) : FnOk P w K mg base CX0 3 f fd pm_check_lull spCheckLull := by
  refine F.ok sc_check_lull (fun vs H Q E h => ?_) (fun cdv A' outer s H vs Q E hr h => ?_)
  · obtain ⟨_, _, _, rfl, _⟩ := h
    rfl
  · obtain ⟨d, t, l, rfl, d1, d2, t1, t2, l1, l2, q⟩ := h
    refine ⟨_, pss_cons (ps_if (pt_not (pt_val (pe_own O_is_between (hr.mono (by decide)) pass0 (pa_cons (pv 1) (pa_cons (pe_op op_mul (pe_int) (pv 0)) (pa_cons (pe_gint T.g_MOST_TURN) pa_nil)))))) (pss_dead) (pss_nil))
      (pss_one (ps_if (pt_not (pt_val (pe_own O_is_between (hr.mono (by decide)) pass0 (pa_cons (pv 2) (pa_cons (pe_int) (pa_cons (pe_gint T.g_MOST_LOST) pa_nil)))))) (pss_dead) (pss_nil))), ?_⟩
    refine ⟨_, rfl, _, rfl, _, _, rfl, rfl, .inl ⟨by decide, by decide⟩, _, .int, _, _, rfl, ⟨_, rfl⟩, _, rfl, ?_⟩
    rw [bw t1 t2]
    refine iteF ⟨_, rfl, _, .int, _, _, rfl, ⟨_, rfl⟩, _, rfl, ?_⟩
    rw [bw l1 l2]
    exact iteF q
def spCheckQuiet : Sp := fun vs H Q _ => ∃ z : Int, vs = [.int z] ∧ 1 ≤ z ∧ z ≤ 500 ∧ Q .non H
theorem ok_checkQuiet {f : Addr} {fd : FuncData} (F : Fun K "check_quiet" "check_quiet" s_check_quiet f fd) (T : Txt K mg A) (O_is_between : Own P w K mg base CX0 "is_between" 2 pm_is_between spBetween) : FnOk P w K mg base CX0 3 f fd pm_check_quiet spCheckQuiet := by
  refine F.ok sc_check_quiet (fun vs H Q E h => ?_) (fun cdv A' outer s H vs Q E hr h => ?_)
  · obtain ⟨_, rfl, _⟩ := h
    rfl
  · obtain ⟨z, rfl, z1, z2, q⟩ := h
    refine ⟨_, pss_one (ps_if (pt_not (pt_val (pe_own O_is_between (hr.mono (by decide)) pass0 (pa_cons (pv 0) (pa_cons (pe_int) (pa_cons (pe_gint T.g_MOST_QUIET) pa_nil)))))) (pss_dead) (pss_nil)), ?_⟩
    refine ⟨_, rfl, _, .int, _, _, rfl, ⟨_, rfl⟩, _, rfl, ?_⟩
    rw [bw z1 z2]
    exact iteF q
def lF (d t l z : Int) : List (Str × V) := [("delay", .int d), ("turn", .int t), ("losses", .int l), ("quiet", .int z)]
def LullAt (A : Ad) (H : Hp) (p : Addr) (d t l z : Int) : Prop := ∃ dx, H p = some (.ins A.Lull dx (lF d t l z))
theorem LullAt.ext {H H' : Hp} {p : Addr} {d t l z : Int} (h : LullAt A H p d t l z) (e : Ext H H') : LullAt A H' p d t l z := by
  obtain ⟨dx, h⟩ := h
  exact ⟨dx, e _ _ h⟩
structure Sizes (d t l z : Int) : Prop where
  d1 : 1 ≤ d
  d2 : d ≤ 50
  t1 : 2 * d ≤ t
  t2 : t ≤ 200
  l1 : 1 ≤ l
  l2 : l ≤ 3
  z1 : 1 ≤ z
  z2 : z ≤ 500
def spLullInit (A : Ad) : Sp := fun vs H Q _ => ∃ (p dx : Addr) (d t l z : Int), vs = [.ref p, .int d, .int t, .int l, .int z] ∧ H p = some (.ins A.Lull dx []) ∧ Sizes d t l z ∧
  ∀ H', LullAt A H' p d t l z → (∀ x u, x ≠ p → H x = some u → H' x = some u) → Q .non H'
theorem ok_lullInit {f : Addr} {fd : FuncData} (F : Fun K "__init__" "Lull.__init__" s_Lull_init f fd) (T : Txt K mg A) (O_is_between : Own P w K mg base CX0 "is_between" 2 pm_is_between spBetween)
    (O_check_lull : Own P w K mg base CX0 "check_lull" 3 pm_check_lull spCheckLull) (O_check_quiet : Own P w K mg base CX0 "check_quiet" 3 pm_check_quiet spCheckQuiet) : FnOk P w K mg base CX0 4 f fd pm_Lull_init (spLullInit A) := by
  refine F.ok sc_Lull_init (fun vs H Q E h => ?_) (fun cdv A' outer s H vs Q E hr h => ?_)
  · obtain ⟨_, _, _, _, _, _, rfl, _⟩ := h
    rfl
  · obtain ⟨p, dx, d, t, l, z, rfl, hp, S, hQ⟩ := h
    refine ⟨_, pss_cons (ps_if (pt_not (pt_val (pe_own O_is_between (hr.mono (by decide)) pass0 (pa_cons (pv 1) (pa_cons (pe_int) (pa_cons (pe_gint T.g_MOST_DELAY) pa_nil)))))) (pss_dead) (pss_nil))
      (pss_cons (ps_expr (pe_own O_check_lull (hr.mono (by decide)) pass0 (pa_cons (pv 1) (pa_cons (pv 2) (pa_cons (pv 3) pa_nil)))))
      (pss_cons (ps_expr (pe_own O_check_quiet (hr.mono (by decide)) pass0 (pa_cons (pv 4) pa_nil)))
      (pss_cons (ps_fld (pv 0) (pv 1) rfl)
      (pss_cons (ps_fld (pv 0) (pv 2) rfl)
      (pss_cons (ps_fld (pv 0) (pv 3) rfl)
      (pss_one (ps_fld (pv 0) (pv 4) rfl))))))), ?_⟩
    refine ⟨_, rfl, _, .int, _, _, rfl, ⟨_, rfl⟩, _, rfl, ?_⟩
    rw [bw S.d1 S.d2]
    refine iteF ⟨_, rfl, _, rfl, _, rfl, d, t, l, rfl, S.d1, S.d2, S.t1, S.t2, S.l1, S.l2, _, rfl, z, rfl, S.z1, S.z2, ?_⟩
    refine ⟨_, rfl, _, rfl, p, A.Lull, dx, [], rfl, hp, T.Lull.cl, T.c_delay, (by show 0 < 1000; decide), ?_⟩
    refine ⟨_, rfl, _, rfl, p, A.Lull, dx, _, rfl, upd_same, T.Lull.cl, T.c_turn, (by show 1 < 1000; decide), ?_⟩
    refine ⟨_, rfl, _, rfl, p, A.Lull, dx, _, rfl, upd_same, T.Lull.cl, T.c_losses, (by show 2 < 1000; decide), ?_⟩
    refine ⟨_, rfl, _, rfl, p, A.Lull, dx, _, rfl, upd_same, T.Lull.cl, T.c_quiet, (by show 3 < 1000; decide), ?_⟩
    refine hQ _ ⟨dx, upd_same.trans (by rfl)⟩ fun x u hx hu => ?_
    rw [upd_ne hx, upd_ne hx, upd_ne hx, upd_ne hx]
    exact hu
end
end K33

set_option Elab.async false
set_option maxRecDepth 100000
set_option maxHeartbeats 4000000
namespace K33
open PySem PySem.Spec PyProof.Rows L2
theorem dvi {a b : Int} : decide (V.int a = V.int b) = decide (a = b) := by
  rw [Bool.eq_iff_iff]
  simp
theorem get_int {S : List Int} {i : Nat} (h : i < S.length) : (S.map V.int)[i]? = some (.int (S.getD i 0)) := by
  rw [List.getElem?_map, List.getD_eq_getElem?_getD, List.getElem?_eq_getElem h]
  rfl
def signB (z : Int) (S : List Int) (i : Nat) : Bool := decide (prev S i + 1 ≤ S.getD i 0) && decide (S.getD i 0 ≤ z - 1)
section
variable {P : Program} {w : World} {K : PySem.W.Frag} {mg : Str → Option Value} {base : Heap} {A : Ad}
def spSign (A : Ad) : Sp := fun vs H Q _ => ∃ (p q : Addr) (d t l z : Int) (S : List Int) (i : Nat), vs = [.ref p, .ref q, .int (i : Int)] ∧ LullAt A H p d t l z ∧ H q = some (.tup (S.map V.int)) ∧ i < S.length ∧ Q (.bl (signB z S i)) H
theorem ok_sign {f : Addr} {fd : FuncData} (F : Fun K "is_sign_behind" "is_sign_behind" s_is_sign_behind f fd) (T : Txt K mg A) (O_is_between : Own P w K mg base CX0 "is_between" 2 pm_is_between spBetween) : FnOk P w K mg base CX0 3 f fd pm_is_sign_behind (spSign A) := by
  refine F.ok sc_is_sign_behind (fun vs H Q E h => ?_) (fun cdv A' outer s H vs Q E hr h => ?_)
  · obtain ⟨_, _, _, _, _, _, _, _, rfl, _⟩ := h
    rfl
  · obtain ⟨p, q, d, t, l, z, S, i, rfl, ⟨dx, hp⟩, hq, hi, k⟩ := h
    refine ⟨_, pss_cons (ps_set (i := 3) sc_is_sign_behind.nd rfl (Or.inl rfl) (pe_ifExp (pt_cmpR op_eq (pv 2) (pe_int) (nomark _)) (pe_int) (pe_op op_add (pe_ix ix_tup (pv 1) (pe_op op_sub (pv 2) (pe_int)) (fun _ _ => rfl)) (pe_int))))
      (pss_one (ps_ret (pe_own O_is_between (hr.mono (by decide)) pass0 (pa_cons (pe_ix ix_tup (pv 1) (pv 2) (fun _ _ => rfl)) (pa_cons (pv 3) (pa_cons (pe_op op_sub (pe_fld (pv 0) rfl) (pe_int)) pa_nil)))))), ?_⟩
    have fin : ∀ a : Int, a = prev S i + 1 → betw (.int (S.getD i 0)) a (z - 1) = signB z S i := fun a h => by
      rw [h, betw_int]
      rfl
    refine ⟨_, rfl, rfl, _, rfl, ?_⟩
    rw [dvi]
    by_cases h0 : i = 0
    · subst h0
      rw [decide_eq_true (by rfl)]
      refine iteT ⟨_, rfl, _, rfl, q, _, _, .int (S.getD 0 0), rfl, rfl, SqT.of hq, atI_nat (get_int hi), _, rfl, _, rfl, p, A.Lull, dx, _, _, rfl, hp, T.Lull.cl, T.c_quiet, rfl, _, _, rfl, rfl, _, .int, _, _, rfl, ⟨_, rfl⟩, ?_⟩
      rw [fin 1 (by unfold prev; rw [if_pos rfl]; rfl)]
      exact k
    · rw [decide_eq_false (by omega)]
      refine iteF ⟨_, rfl, _, rfl, _, _, rfl, rfl, q, _, _, .int (S.getD (i - 1) 0), rfl, rfl, SqT.of hq, (by rw [show (i : Int) - 1 = ((i - 1 : Nat) : Int) by omega]; exact atI_nat (get_int (by omega))), _, _, rfl, rfl, ?_⟩
      refine ⟨_, rfl, _, rfl, q, _, _, .int (S.getD i 0), rfl, rfl, SqT.of hq, atI_nat (get_int hi), _, rfl, _, rfl, p, A.Lull, dx, _, _, rfl, hp, T.Lull.cl, T.c_quiet, rfl, _, _, rfl, rfl, _, .int, _, _, rfl, ⟨_, rfl⟩, ?_⟩
      rw [fin _ (by unfold prev; rw [if_neg h0])]
      exact k
theorem rise_iff {z : Int} {S : List Int} : Rise z S ↔ ∀ i, i < S.length → signB z S i = true := by
  unfold Rise signB
  constructor
  · intro h i hi
    have := h i hi
    rw [decide_eq_true this.1, decide_eq_true this.2]
    rfl
  · intro h i hi
    have := h i hi
    rw [Bool.and_eq_true, decide_eq_true_eq, decide_eq_true_eq] at this
    exact this
def spAre (A : Ad) : Sp := fun vs H Q _ => ∃ (p q : Addr) (d t l z : Int) (S : List Int), vs = [.ref p, .ref q] ∧ LullAt A H p d t l z ∧ H q = some (.tup (S.map V.int)) ∧ S.length ≤ 1000 ∧ ((Rise z S → Q (.bl true) H) ∧ (¬ Rise z S → Q (.bl false) H))
theorem ok_are {f : Addr} {fd : FuncData} (F : Fun K "are_signs" "are_signs" s_are_signs f fd) (T : Txt K mg A) (O_is_sign_behind : Own P w K mg base CX0 "is_sign_behind" 3 pm_is_sign_behind (spSign A)) : FnOk P w K mg base CX0 4 f fd pm_are_signs (spAre A) := by
  refine F.ok sc_are_signs (fun vs H Q E h => ?_) (fun cdv A' outer s H vs Q E hr h => ?_)
  · obtain ⟨_, _, _, _, _, _, _, rfl, _⟩ := h
    rfl
  · obtain ⟨p, q, d, t, l, z, S, rfl, hp, hq, hl, k1, k2⟩ := h
    refine ⟨_, pss_cons (ps_if (pt_not (pt_val (pe_callB call_isi (by rfl) T.n_isinstance (by decide +kernel) (pa_cons (pv 1) (pa_cons (pe_bltn (v := .ty "tuple") (by rfl) T.n_tuple (by decide +kernel) rfl) pa_nil))))) (pss_one (ps_ret (pe_bl))) (pss_nil))
      (pss_cons (ps_for PassesOwn.never rfl (pi_range1 rfl T.n_range (pa_cons (pe_callB call_len_seq (by rfl) T.n_len (by decide +kernel) (pa_cons (pv 1) pa_nil)) pa_nil)) (pg_name (i := 2) sc_are_signs.nd rfl (Or.inl rfl)) (pss_one (ps_if (pt_not (pt_val (pe_own O_is_sign_behind (hr.mono (by decide)) pass0 (pa_cons (pv 0) (pa_cons (pv 1) (pa_cons (pv 2) pa_nil)))))) (pss_one (ps_ret (pe_bl))) (pss_nil))))
      (pss_one (ps_ret (pe_bl)))), ?_⟩
    refine ⟨_, rfl, _, .ty "tuple", .type "tuple", .type "tuple", true, rfl, .ty _, .base (.tup hq), knd_tup (k := .tuple), _, rfl, iteF ?_⟩
    refine ⟨_, rfl, q, _, rfl, .inr (SqT.of hq), _, rfl, by omega, by rw [List.length_map]; omega, ?_⟩
    refine for_range (fun i σ' H' => H' = H ∧ (∃ o, σ' = [some (.ref p), some (.ref q), o]) ∧ ∀ j, j < i → signB z S j = true) ⟨rfl, ⟨_, rfl⟩, fun j hj => absurd hj (Nat.not_lt_zero _)⟩ (fun i σ' H' hi pv => ?_) (fun σ' H' pv => ?_)
    · obtain ⟨rfl, ⟨o, rfl⟩, hb⟩ := pv
      rw [List.length_map, Int.toNat_natCast] at hi
      refine ⟨_, rfl, _, rfl, _, rfl, p, q, d, t, l, z, S, i, (by rw [Int.zero_add]; rfl), hp, hq, hi, _, rfl, ?_⟩
      cases h1 : signB z S i with
      | true =>
        refine iteF ⟨rfl, ⟨_, rfl⟩, fun j hj => ?_⟩
        by_cases e : j < i
        · exact hb j e
        · rw [show j = i by omega]
          exact h1
      | false =>
        refine iteT (k2 fun hr => ?_)
        rw [rise_iff.mp hr i hi] at h1
        cases h1
    · obtain ⟨rfl, _, hb⟩ := pv
      rw [List.length_map, Int.toNat_natCast] at hb
      exact k1 (rise_iff.mpr hb)
end
end K33

set_option Elab.async false
set_option maxRecDepth 100000
set_option maxHeartbeats 4000000
namespace K33
open PySem PySem.Spec PyProof.Rows L2
def stL (d t z : Int) (L : Nat) (S : List Int) : List Int := (-2 * d) :: (S ++ (List.range (L + 1)).map fun (i : Nat) => z + (i : Int) * t)
theorem stL_len {d t z : Int} {L : Nat} {S : List Int} : (stL d t z L S).length = S.length + L + 2 := by
  simp [stL]
  omega
theorem stL_get {d t z : Int} {L : Nat} {S : List Int} {i : Nat} (h : i < S.length + L + 2) : (stL d t z L S).getD i 0 = st d t z S i := by
  unfold st stL
  by_cases h0 : i = 0
  · subst h0
    rw [if_pos rfl]
    rfl
  · rw [if_neg h0]
    obtain ⟨j, rfl⟩ : ∃ j, i = j + 1 := ⟨i - 1, by omega⟩
    rw [List.getD_cons_succ, List.getD_eq_getElem?_getD]
    by_cases h1 : j + 1 ≤ S.length
    · rw [if_pos h1, List.getElem?_append_left (by omega), Nat.add_sub_cancel, List.getD_eq_getElem?_getD]
    · rw [if_neg h1, List.getElem?_append_right (by omega), List.getElem?_map, List.getElem?_range (by omega), show j + 1 - S.length - 1 = j - S.length by omega]
      rfl
/-- the greatest difference of two that stand k places apart -/
def IsW (tl : List Int) (k : Nat) (m : Int) : Prop := (∃ i, i + k < tl.length ∧ tl.getD (i + k) 0 - tl.getD i 0 = m) ∧ ∀ i, i + k < tl.length → tl.getD (i + k) 0 - tl.getD i 0 ≤ m
/-- m is the quiet gap -/
def Gap (d t : Int) (L : Nat) (z : Int) (S : List Int) (m : Int) : Prop := (∃ i, i ≤ S.length ∧ st d t z S (i + (L + 1)) - st d t z S i = m) ∧ ∀ i, i ≤ S.length → st d t z S (i + (L + 1)) - st d t z S i ≤ m
theorem isW_gap {d t z m : Int} {L : Nat} {S : List Int} : IsW (stL d t z L S) (L + 1) m ↔ Gap d t L z S m := by
  unfold IsW Gap
  rw [stL_len]
  constructor
  · rintro ⟨⟨i, hi, h1⟩, h2⟩
    refine ⟨⟨i, by omega, ?_⟩, fun j hj => ?_⟩
    · rw [stL_get hi, stL_get (by omega)] at h1
      exact h1
    · have := h2 j (by omega)
      rw [stL_get (by omega), stL_get (by omega)] at this
      exact this
  · rintro ⟨⟨i, hi, h1⟩, h2⟩
    refine ⟨⟨i, by omega, ?_⟩, fun j hj => ?_⟩
    · rw [stL_get (by omega), stL_get (by omega)]
      exact h1
    · rw [stL_get (by omega), stL_get (by omega)]
      exact h2 j (by omega)
theorem gap_do {d t z m lim : Int} {L : Nat} {S : List Int} (h : Gap d t L z S m) : Do d t L z S lim ↔ m ≤ lim := by
  obtain ⟨⟨i, hi, h1⟩, h2⟩ := h
  constructor
  · intro hd
    have := hd i hi
    omega
  · intro hm j hj
    have := h2 j hj
    omega
theorem gap_one {d t z m m' : Int} {L : Nat} {S : List Int} (h : Gap d t L z S m) (h' : Gap d t L z S m') : m = m' := by
  obtain ⟨⟨i, hi, h1⟩, h2⟩ := h
  obtain ⟨⟨j, hj, h3⟩, h4⟩ := h'
  have := h2 j hj
  have := h4 i hi
  omega
section
variable {P : Program} {w : World} {K : PySem.W.Frag} {mg : Str → Option Value} {base : Heap} {A : Ad}
def spStopsOf (K : PySem.W.Frag) (A : Ad) : Sp := fun vs H Q _ => ∃ (p q : Addr) (d t : Int) (L : Nat) (z : Int) (S : List Int), vs = [.ref p, .ref q] ∧ LullAt A H p d t (L : Int) z ∧ (SqT K H q (S.map V.int) ∨ SqL K H q (S.map V.int)) ∧ L ≤ 3 ∧ S.length ≤ 1000 ∧ 0 ≤ t ∧ t ≤ 200 ∧
  ∀ r H', Ext H H' → H' r = some (.tup ((stL d t z L S).map V.int)) → Q (.ref r) H'
theorem ok_stopsOf {f : Addr} {fd : FuncData} (F : Fun K "stops_of" "stops_of" s_stops_of f fd) (T : Txt K mg A) : FnOk P w K mg base CX0 1 f fd pm_stops_of (spStopsOf K A) := by
  refine F.ok sc_stops_of (fun vs H Q E h => ?_) (fun cdv A' outer s H vs Q E hr h => ?_)
  · obtain ⟨_, _, _, _, _, _, _, rfl, _⟩ := h
    rfl
  · obtain ⟨p, q, d, t, L, z, S, rfl, ⟨dx, hp⟩, hq, hL, hS, t0, t2, k⟩ := h
    refine ⟨_, pss_cons (ps_setLc (i := 2) (te := tOp (rI0 fun i j => .int (i + j)) (tFld K (tVar 0) "quiet") (tOp (rI CMul fun i j => .int (i * j)) (tVar 3) (tFld K (tVar 0) "turn"))) (own := [("lost", 3)]) (g := gName 3) (by rfl) sc_stops_of.nd rfl rfl (sw_true rfl rfl rfl (by decide +kernel)) (pi_range1 rfl T.n_range (pa_cons (pe_op op_add (pe_fld (pv 0) rfl) (pe_int)) pa_nil)) (blkOk_by (own := [("lost", 3)]) (N := nm_stops_of) (sc := defScope s_stops_of) (by decide +kernel)) (fun _ _ _ _ _ => pg_name (i := 3) sc_stops_of.nd rfl (Or.inl rfl)) (fun s1 H1 C1 cl fp => pts_nil) (fun s1 H1 C1 cl fp => pe_op op_add (pe_fldK (K := K) rfl (pv 0) rfl) (pe_op op_mul (pv 3) (pe_fldK (K := K) rfl (pv 0) rfl))))
      (pss_one (ps_ret (pe_tup (pa_cons (pe_op op_mul (pe_un un_neg (pe_int)) (pe_fld (pv 0) rfl)) (StX.pa_star (pv 1) (StX.pa_star (pv 2) (pa_nil))))))), ?_⟩
    refine ⟨_, rfl, p, A.Lull, dx, _, _, rfl, hp, T.Lull.cl, T.c_losses, rfl, _, _, rfl, rfl, _, rfl, by omega, by omega, lc_rgR (b := fun _ => true) (f := fun i => .int (z + (i : Int) * t)) (by show _ < 16777216; omega) (fun x => rfl) (fun i hi H' e' Q' q' => q' _ Ext.rfl') (fun i hi _ H' e' Q' q' => ?_) (fun D H1 hD e1 hl => ?_)⟩
    · have hp' := e' _ _ hp
      refine ⟨_, rfl, p, A.Lull, dx, _, _, rfl, hp', T.Lull.cl, T.c_quiet, rfl, _, rfl, _, rfl, p, A.Lull, dx, _, _, rfl, hp', T.Lull.cl, T.c_turn, rfl, _, _, rfl, rfl, .inr ⟨by omega, by omega⟩, _, _, rfl, rfl, ?_⟩
      rw [Int.zero_add]
      exact q' _ Ext.rfl'
    · rw [L2.filter_all] at hl
      have hp' := e1 _ _ hp
      have hq' : SqT K H1 q (S.map V.int) ∨ SqL K H1 q (S.map V.int) := hq.imp (fun h => h.ext e1) (fun h => h.ext e1)
      refine ⟨_, rfl, _, rfl, p, A.Lull, dx, _, _, rfl, hp', T.Lull.cl, T.c_delay, rfl, _, _, rfl, rfl, .inl ⟨by decide, by decide⟩, _, rfl, q, _, rfl, hq', _, rfl, D, _, rfl, .inr (SqL.of hl), ?_, fun r hr => ?_⟩
      · simp
        show _ ≤ 16777216
        omega
      · refine k r _ (e1.trans (Ext.upd hr)) ?_
        rw [upd_same]
        congr 2
        rw [show ((L : Int) + 1).toNat = L + 1 by omega]
        simp [stL]
end
end K33

set_option Elab.async false
set_option maxRecDepth 100000
set_option maxHeartbeats 4000000
namespace K33
open PySem PySem.Spec PyProof.Rows L2
theorem small_sz {n : Nat} (h : n ≤ 2000) : n < sizeLine := by show n < 16777216; omega
theorem cut_from {S : List Int} {k : Nat} (h : k ≤ S.length) : cutV (S.map V.int) (some (k : Int)) none = (S.drop k).map V.int := by
  unfold cutV
  rw [show HT.sIx (S.map V.int).length (S.map V.int).length none = (S.map V.int).length from rfl, HT.sIx_nat, Nat.min_eq_left (by rw [List.length_map]; exact h), ← List.map_drop, List.take_of_length_le (by simp)]
section
variable {P : Program} {w : World} {K : PySem.W.Frag} {mg : Str → Option Value} {base : Heap} {A : Ad}
def spWidest (A : Ad) : Sp := fun vs H Q _ => ∃ (p q : Addr) (d t : Int) (L : Nat) (z : Int) (tl : List Int), vs = [.ref p, .ref q] ∧ LullAt A H p d t (L : Int) z ∧ H q = some (.tup (tl.map V.int)) ∧ L ≤ 3 ∧ L + 1 < tl.length ∧ tl.length ≤ 1100 ∧
  ∀ m H', Ext H H' → IsW tl (L + 1) m → Q (.int m) H'
theorem ok_widest {f : Addr} {fd : FuncData} (F : Fun K "widest" "widest" s_widest f fd) (T : Txt K mg A) : FnOk P w K mg base CX0 1 f fd pm_widest (spWidest A) := by
  refine F.ok sc_widest (fun vs H Q E h => ?_) (fun cdv A' outer s H vs Q E hr h => ?_)
  · obtain ⟨_, _, _, _, _, _, _, rfl, _⟩ := h
    rfl
  · obtain ⟨p, q, d, t, L, z, tl, rfl, ⟨dx, hp⟩, hq, hL, h1, h2, k⟩ := h
    refine ⟨_, pss_cons (ps_set (i := 2) sc_widest.nd rfl (Or.inl rfl) (pe_slice sl_tupE (pv 1) (po_some (pe_op op_add (pe_fld (pv 0) rfl) (pe_int))) po_none))
      (pss_one (ps_ret (pe_callB (cr_max rfl) (by rfl) T.n_max (by decide +kernel) (pa_cons (pe_lc (own := [("sooner", 3), ("later", 4)]) (g := gTup K 2 (gCons (gName 3) (gCons (gName 4) (gNil)))) (by rfl) sc_widest.nd (RZ.pi_zipA (by rfl) T.n_zip (pa_cons (pv 1) (pa_cons (pv 2) pa_nil))) (blkOk_by (own := [("sooner", 3), ("later", 4)]) (N := nm_widest) (sc := defScope s_widest) (by decide +kernel)) (fun _ _ _ _ _ => pg_tup rfl (pgs_cons (pg_name (i := 3) sc_widest.nd rfl (Or.inl rfl)) (pgs_cons (pg_name (i := 4) sc_widest.nd rfl (Or.inl rfl)) (pgs_nil)))) (fun s1 H1 C1 cl fp => pts_nil) (fun s1 H1 C1 cl fp => pe_callTy call_int1 (by rfl) T.n_int (by decide +kernel) (pa_cons (pe_op op_sub (pv 4) (pv 3)) pa_nil))) pa_nil)))), ?_⟩
    refine ⟨_, rfl, _, rfl, p, A.Lull, dx, _, _, rfl, hp, T.Lull.cl, T.c_losses, rfl, _, _, rfl, rfl, _, rfl, q, _, rfl, hq, fun r H1 e1 hr1 => ?_⟩
    have hq1 := e1 _ _ hq
    rw [show ((L : Int) + 1) = ((L + 1 : Nat) : Int) by omega, cut_from (by omega)] at hr1
    have hx : ∀ i x y, i < tl.length - (L + 1) → (tl.map V.int)[i]? = some x → ((tl.drop (L + 1)).map V.int)[i]? = some y → x = .int (tl.getD i 0) ∧ y = .int (tl.getD (i + (L + 1)) 0) := fun i x y hi a b => by
      rw [get_int (by omega)] at a
      rw [List.getElem?_map, List.getElem?_drop, Nat.add_comm, ← List.getElem?_map, get_int (by omega)] at b
      cases a
      cases b
      exact ⟨rfl, rfl⟩
    refine ⟨_, rfl, _, rfl, q, r, _, _, rfl, .inr ⟨SqT.of hq1, SqT.of hr1, lc_zipR (n := tl.length - (L + 1)) (b := fun _ => true) (f := fun i => .int (tl.getD (i + (L + 1)) 0 - tl.getD i 0)) (SqT.of hq1) (SqT.of hr1) (by rw [List.length_map, List.length_map, List.length_drop]; omega) (small_sz (by omega)) (fun x y => rfl) (fun i x y hi a b H' e' Q' q' => q' _ Ext.rfl') (fun i x y hi a b _ H' e' Q' q' => ?_) (fun D H2 hD e2 hl => ?_)⟩⟩
    · obtain ⟨rfl, rfl⟩ := hx i x y hi a b
      exact ⟨_, rfl, _, rfl, _, _, rfl, rfl, .inl ⟨_, rfl, q' _ Ext.rfl'⟩⟩
    · rw [L2.filter_all] at hl
      refine ⟨D, (List.range (tl.length - (L + 1))).map fun i => tl.getD (i + (L + 1)) 0 - tl.getD i 0, rfl, SqL.of (by rw [hl, List.map_map]; rfl), by rw [List.length_map, List.length_range]; omega, fun m hm hmax => k m _ (e1.trans e2) ⟨?_, fun i hi => hmax _ (List.mem_map.mpr ⟨i, List.mem_range.mpr (by omega), rfl⟩)⟩⟩
      obtain ⟨i, hi, rfl⟩ := List.mem_map.mp hm
      have := List.mem_range.mp hi
      exact ⟨i, by omega, rfl⟩
/-! signs that do -/
def spDo (A : Ad) : Sp := fun vs H Q _ => ∃ (p q : Addr) (lim d t : Int) (L : Nat) (z : Int) (S : List Int), vs = [.ref p, .int lim, .ref q] ∧ LullAt A H p d t (L : Int) z ∧ Sizes d t L z ∧ H q = some (.tup (S.map V.int)) ∧ S.length ≤ 1000 ∧
  (Rise z S ∧ Do d t L z S lim → ∀ H', Ext H H' → Q (.bl true) H') ∧ (¬ (Rise z S ∧ Do d t L z S lim) → ∀ H', Ext H H' → Q (.bl false) H')
theorem ok_do {f : Addr} {fd : FuncData} (F : Fun K "signs_do" "signs_do" s_signs_do f fd) (T : Txt K mg A) (O_are_signs : Own P w K mg base CX0 "are_signs" 4 pm_are_signs (spAre A)) (O_stops_of : Own P w K mg base CX0 "stops_of" 1 pm_stops_of (spStopsOf K A)) (O_widest : Own P w K mg base CX0 "widest" 1 pm_widest (spWidest A)) : FnOk P w K mg base CX0 5 f fd pm_signs_do (spDo A) := by
  refine F.ok sc_signs_do (fun vs H Q E h => ?_) (fun cdv A' outer s H vs Q E hr h => ?_)
  · obtain ⟨_, _, _, _, _, _, _, _, rfl, _⟩ := h
    rfl
  · obtain ⟨p, q, lim, d, t, L, z, S, rfl, hp, Z, hq, hS, k1, k2⟩ := h
    refine ⟨_, pss_one (ps_ret (pe_and (pe_own O_are_signs (hr.mono (by decide)) pass0 (pa_cons (pv 0) (pa_cons (pv 2) pa_nil))) (pe_one (pe_cmpR op_le (pe_own O_widest (hr.mono (by decide)) pass0 (pa_cons (pv 0) (pa_cons (pe_own O_stops_of (hr.mono (by decide)) pass0 (pa_cons (pv 0) (pa_cons (pv 2) pa_nil))) pa_nil))) (pv 1) (nomark _))))), ?_⟩
    have hL : L ≤ 3 := by have := Z.l2; omega
    refine ⟨_, rfl, _, rfl, p, q, d, t, _, z, S, rfl, hp, hq, hS, fun hr => ⟨_, rfl, iteT ?_⟩, fun hr => ⟨_, rfl, iteF (k2 (fun h => hr h.1) _ Ext.rfl')⟩⟩
    refine ⟨_, rfl, _, rfl, _, rfl, p, q, d, t, L, z, S, rfl, hp, .inl (SqT.of hq), hL, hS, by have := Z.t1; have := Z.d1; omega, Z.t2, fun r H1 e1 hr1 => ?_⟩
    refine ⟨p, r, d, t, L, z, _, rfl, hp.ext e1, hr1, hL, by rw [stL_len]; omega, by rw [stL_len]; omega, fun m H2 e2 hw => ⟨_, rfl, _, _, rfl, rfl, ?_⟩⟩
    have hg := gap_do (lim := lim) (isW_gap.mp hw)
    show Q (.bl (decide (m ≤ lim))) H2
    by_cases hm : m ≤ lim
    · rw [decide_eq_true hm]
      exact k1 ⟨hr, hg.mpr hm⟩ _ (e1.trans e2)
    · rw [decide_eq_false hm]
      exact k2 (fun h => hm (hg.mp h.2)) _ (e1.trans e2)
end
end K33

set_option Elab.async false
set_option maxRecDepth 100000
set_option maxHeartbeats 4000000
namespace K33
open PySem PySem.Spec PyProof.Rows L2
theorem lots_fdiv {L i : Nat} : ((1 : Int) + (i : Int) + (L : Int)).fdiv ((L : Int) + 1) = (lots L (i + 1) : Int) := by
  rw [show (1 : Int) + (i : Int) + (L : Int) = ((i + 1 + L : Nat) : Int) by omega, show (L : Int) + 1 = ((L + 1 : Nat) : Int) by omega, Int.fdiv_eq_ediv_of_nonneg _ (by omega)]
  rfl
theorem range_take {f : Nat → Int} {m i : Nat} (h : i < m) : ((List.range m).map f).take (i + 1) = ((List.range m).map f).take i ++ [f i] := by
  rw [List.take_add_one, List.getElem?_map, List.getElem?_range h]
  rfl
section
variable {P : Program} {w : World} {K : PySem.W.Frag} {mg : Str → Option Value} {base : Heap} {A : Ad}
def spLimit (A : Ad) : Sp := fun vs H Q E => ∃ v k, vs = [v] ∧ KndOf H v k ∧ (betw v 1 20000 = true → Q .non H) ∧ (betw v 1 20000 = false → ∀ e, H e = none → E (.ref A.BadNumber) (some e) (upd H e (.xd [("number", v)])))
theorem ok_limit {f : Addr} {fd : FuncData} (F : Fun K "check_limit" "check_limit" s_check_limit f fd) (T : Txt K mg A) (O_is_between : Own P w K mg base CX0 "is_between" 2 pm_is_between spBetween)
    (X_BadNumber : XCls P w K mg base "BadNumber" "number" A.BadNumber) : FnOk P w K mg base (L2.CX P w) 4 f fd pm_check_limit (spLimit A) := by
  refine F.okX sc_check_limit (fun vs H Q E h => ?_) (fun cdv A' outer s H vs Q E hr h => ?_)
  · obtain ⟨_, _, rfl, _⟩ := h
    rfl
  · obtain ⟨v, k, rfl, hk, h1, h2⟩ := h
    refine ⟨_, pss_one (ps_if (pt_not (pt_val (pe_own O_is_between (hr.mono (by decide)) pass0 (pa_cons (pv 0) (pa_cons (pe_int) (pa_cons (pe_gint T.g_MOST_LIMIT) pa_nil)))))) (pss_one (ps_raise rfl (takes_of rfl rfl rfl rfl) (pmk_X X_BadNumber (hr.mono (by decide)) (pv 0) rfl))) (pss_nil)), ?_⟩
    refine ⟨v, rfl, v, k, 1, 20000, rfl, hk, _, rfl, ?_⟩
    cases hb : betw v 1 20000 with
    | true => exact iteF (h1 hb)
    | false => exact iteT ⟨_, rfl, mkX_fin fun e he => h2 hb e he⟩
def spLesser : Sp := fun vs H Q _ => ∃ a b : Int, vs = [.int a, .int b] ∧ Q (.int (if b < a then b else a)) H
theorem ok_lesser {f : Addr} {fd : FuncData} (F : Fun K "lesser" "lesser" s_lesser f fd) (T : Txt K mg A) : FnOk P w K mg base CX0 1 f fd pm_lesser spLesser := by
  refine F.ok sc_lesser (fun vs H Q E h => ?_) (fun cdv A' outer s H vs Q E hr h => ?_)
  · obtain ⟨_, _, rfl, _⟩ := h
    rfl
  · obtain ⟨a, b, rfl, q⟩ := h
    refine ⟨_, pss_one (ps_ret (pe_callB (call_min2 rfl) (by rfl) T.n_min (by decide +kernel) (pa_cons (pe_callTy call_int1 (by rfl) T.n_int (by decide +kernel) (pa_cons (pv 0) pa_nil)) (pa_cons (pe_callTy call_int1 (by rfl) T.n_int (by decide +kernel) (pa_cons (pv 1) pa_nil)) pa_nil)))), ?_⟩
    exact ⟨_, rfl, .inl ⟨_, rfl, _, rfl, .inl ⟨_, rfl, a, b, rfl, q⟩⟩⟩
def spLatest (A : Ad) : Sp := fun vs H Q _ => ∃ (p : Addr) (lim d t : Int) (L : Nat) (z : Int) (m : Nat), vs = [.ref p, .int lim, .int (m : Int)] ∧ LullAt A H p d t (L : Int) z ∧ Sizes d t L z ∧ 1 ≤ lim ∧ lim ≤ 20000 ∧ m ≤ 1000 ∧
  ∀ q H', Ext H H' → H' q = some (.tup ((lat d L z lim m).map V.int)) → Q (.ref q) H'
theorem ok_latest {f : Addr} {fd : FuncData} (F : Fun K "latest_signs" "latest_signs" s_latest_signs f fd) (T : Txt K mg A) (O_lesser : Own P w K mg base CX0 "lesser" 1 pm_lesser spLesser) : FnOk P w K mg base CX0 2 f fd pm_latest_signs (spLatest A) := by
  refine F.ok sc_latest_signs (fun vs H Q E h => ?_) (fun cdv A' outer s H vs Q E hr h => ?_)
  · obtain ⟨_, _, _, _, _, _, _, rfl, _⟩ := h
    rfl
  · obtain ⟨p, lim, d, t, L, z, m, rfl, ⟨dx, hp⟩, Z, l1, l2, hm, k⟩ := h
    refine ⟨_, pss_cons (ps_set (i := 3) sc_latest_signs.nd rfl (Or.inl rfl) (pe_op op_add (pe_fld (pv 0) rfl) (pe_int)))
      (pss_cons (ps_set (i := 4) sc_latest_signs.nd rfl (Or.inl rfl) (pe_lst (pa_nil)))
      (pss_cons (ps_for PassesOwn.never rfl (pi_range2 rfl T.n_range (pa_cons (pe_int) (pa_cons (pe_op op_add (pv 2) (pe_int)) pa_nil))) (pg_name (i := 5) sc_latest_signs.nd rfl (Or.inl rfl)) (pss_cons (ps_set (i := 6) sc_latest_signs.nd rfl (Or.inl rfl) (pe_op op_sub (pe_op op_sub (pe_fld (pv 0) rfl) (pe_int)) (pe_op op_sub (pv 2) (pv 5))))
      (pss_cons (ps_if (pt_cmpR op_ge (pv 2) (pv 3) (nomark _)) (pss_cons (ps_set (i := 7) sc_latest_signs.nd rfl (Or.inl rfl) (pe_op op_fdivN (pe_op op_add (pv 5) (pe_fld (pv 0) rfl)) (pv 3)))
      (pss_one (ps_set (i := 6) sc_latest_signs.nd rfl (Or.inl rfl) (pe_own O_lesser (hr.mono (by decide)) pass0 (pa_cons (pv 6) (pa_cons (pe_op op_sub (pe_op op_sub (pe_op op_mul (pv 7) (pv 1)) (pe_op op_mul (pe_int) (pe_fld (pv 0) rfl))) (pe_op op_sub (pe_op op_mul (pv 7) (pv 3)) (pv 5))) pa_nil)))))) (pss_nil))
      (pss_one (ps_expr (pe_bm PySem.F.plainAttrs_list PySem.F.slot_list_append PySem.F.type_list_append mt_append (pv 4) (pa_cons (pv 6) pa_nil)))))))
      (pss_one (ps_ret (pe_callTy call_tuple_of (by rfl) T.n_tuple (by decide +kernel) (pa_cons (pv 4) pa_nil)))))), ?_⟩
    have hL : L ≤ 3 := by have := Z.l2; omega
    refine ⟨_, rfl, p, A.Lull, dx, _, _, rfl, hp, T.Lull.cl, T.c_losses, rfl, _, _, rfl, rfl, by show 0 ≤ sizeLine; decide, fun a ha => ?_⟩
    refine ⟨_, rfl, _, _, rfl, rfl, 1, (m : Int) + 1, rfl, ⟨by decide, by decide, by omega, by omega⟩, ?_⟩
    refine for_range (fun i σ' H' => ∃ o5 o6 o7, σ' = [some (.ref p), some (.int lim), some (.int (m : Int)), some (.int ((L : Int) + 1)), some (.ref a), o5, o6, o7] ∧ Ext H H' ∧ H' a = some (.lst (((lat d L z lim m).take i).map V.int))) ⟨_, _, _, rfl, Ext.upd ha, upd_same⟩ (fun i σ' H' hi pv => ?_) (fun σ' H' pv => ?_)
    · obtain ⟨o5, o6, o7, rfl, e1, hl⟩ := pv
      have hi' : i < m := by omega
      have hp' := e1 _ _ hp
      have tk : (lat d L z lim m).take (i + 1) = (lat d L z lim m).take i ++ [latP d L z lim m (i + 1)] := range_take hi'
      have hll : (((lat d L z lim m).take i).map V.int).length < 1000 := by
        rw [List.length_map, List.length_take, lat_len]
        omega
      have eA : z - 1 - ((m : Int) - (1 + (i : Int))) = latA z m (i + 1) := by unfold latA; omega
      refine ⟨_, rfl, p, A.Lull, dx, _, _, rfl, hp', T.Lull.cl, T.c_quiet, rfl, _, _, rfl, rfl, _, rfl, _, rfl, _, _, rfl, rfl, _, _, rfl, rfl, ?_⟩
      refine ⟨_, rfl, _, rfl, _, _, rfl, rfl, _, rfl, ?_⟩
      by_cases hb : (L : Int) + 1 ≤ (m : Int)
      · rw [decide_eq_true hb]
        refine iteT ⟨_, rfl, _, rfl, p, A.Lull, dx, _, _, rfl, hp', T.Lull.cl, T.c_losses, rfl, _, _, rfl, rfl, _, rfl, _, _, rfl, rfl, ⟨by omega, by omega⟩, ?_⟩
        refine ⟨_, rfl, _, rfl, _, rfl, _, _, rfl, rfl, .inr ⟨by omega, by omega⟩, _, rfl, p, A.Lull, dx, _, _, rfl, hp', T.Lull.cl, T.c_delay, rfl, _, _, rfl, rfl, .inl ⟨by decide, by decide⟩, _, _, rfl, rfl, _, rfl, _, rfl, _, _, rfl, rfl, .inr ⟨by omega, by omega⟩, _, rfl, _, _, rfl, rfl, _, _, rfl, rfl, ?_⟩
        refine ⟨_, _, rfl, ?_⟩
        rw [lots_fdiv, eA]
        have eB : (lots L (i + 1) : Int) * lim - 2 * d - ((lots L (i + 1) : Int) * ((L : Int) + 1) - (1 + (i : Int))) = latB d L lim (i + 1) := by
          unfold latB
          rw [show ((L + 1 : Nat) : Int) = (L : Int) + 1 by omega, show ((i + 1 : Nat) : Int) = 1 + (i : Int) by omega]
        rw [eB]
        have eP : (if latB d L lim (i + 1) < latA z m (i + 1) then latB d L lim (i + 1) else latA z m (i + 1)) = latP d L z lim m (i + 1) := by
          unfold latP
          exact (if_pos (show L + 1 ≤ m by omega)).symm
        rw [eP]
        refine ⟨_, rfl, .inl ⟨rfl, _, SqL.of hl⟩, _, rfl, a, _, _, rfl, rfl, hl, small1000 (Nat.le_of_lt hll), ?_⟩
        refine ⟨_, _, _, rfl, ext_mut e1 ha, ?_⟩
        rw [upd_same, tk, List.map_append]
        rfl
      · rw [decide_eq_false hb]
        refine iteF ?_
        have eP : latA z m (i + 1) = latP d L z lim m (i + 1) := by
          unfold latP
          rw [if_neg (by omega)]
        refine ⟨_, rfl, .inl ⟨rfl, _, SqL.of hl⟩, _, rfl, a, _, _, rfl, rfl, hl, small1000 (Nat.le_of_lt hll), ?_⟩
        refine ⟨_, _, _, rfl, ext_mut e1 ha, ?_⟩
        rw [upd_same, tk, List.map_append, ← eP, ← eA]
        rfl
    · obtain ⟨o5, o6, o7, rfl, e1, hl⟩ := pv
      rw [List.take_of_length_le (by rw [lat_len]; omega)] at hl
      refine ⟨_, rfl, a, _, rfl, .inl ⟨SqL.of hl, fun q hq => ?_⟩⟩
      exact k q _ (e1.trans (Ext.upd hq)) upd_same
end
end K33

set_option Elab.async false
set_option maxRecDepth 100000
set_option maxHeartbeats 4000000
namespace K33
open PySem PySem.Spec PyProof.Rows L2
theorem okOf {d t z : Int} {L : Nat} (Z : Sizes d t L z) : LullOk d t L z := ⟨Z.d1, Z.t1, by have := Z.l1; omega, Z.z1⟩
/-- m is the least number of signs that do -/
def Least (d t : Int) (L : Nat) (z lim : Int) (m : Nat) : Prop := Ok d t L z lim m ∧ (∀ j, j < m → ¬ Ok d t L z lim j) ∧ (m : Int) ≤ z - 1
section
variable {P : Program} {w : World} {K : PySem.W.Frag} {mg : Str → Option Value} {base : Heap} {A : Ad}
def spBest (A : Ad) : Sp := fun vs H Q E => ∃ (p : Addr) (v : V) (k : Knd) (d t : Int) (L : Nat) (z : Int), vs = [.ref p, v] ∧ KndOf H v k ∧ LullAt A H p d t (L : Int) z ∧ Sizes d t L z ∧
  (betw v 1 20000 = false → ∀ e, H e = none → E (.ref A.BadNumber) (some e) (upd H e (.xd [("number", v)]))) ∧
  (∀ lim, v = .int lim → 1 ≤ lim → lim ≤ 20000 → ((∀ m : Nat, (m : Int) ≤ z - 1 → ¬ Ok d t L z lim m) → ∀ H', Ext H H' → Q .non H') ∧
    ∀ m, Least d t L z lim m → ∀ q H', Ext H H' → H' q = some (.tup ((lat d L z lim m).map V.int)) → Q (.ref q) H')
theorem ok_best {f : Addr} {fd : FuncData} (F : Fun K "best_signs" "best_signs" s_best_signs f fd) (T : Txt K mg A) (O_check_limit : Own P w K mg base (L2.CX P w) "check_limit" 4 pm_check_limit (spLimit A))
    (O_signs_do : Own P w K mg base CX0 "signs_do" 5 pm_signs_do (spDo A)) (O_latest_signs : Own P w K mg base CX0 "latest_signs" 2 pm_latest_signs (spLatest A)) : FnOk P w K mg base (L2.CX P w) 6 f fd pm_best_signs (spBest A) := by
  refine F.okX sc_best_signs (fun vs H Q E h => ?_) (fun cdv A' outer s H vs Q E hr h => ?_)
  · obtain ⟨_, _, _, _, _, _, _, rfl, _⟩ := h
    rfl
  · obtain ⟨p, v, k, d, t, L, z, rfl, hk, hp, Z, hE, hQ⟩ := h
    refine ⟨_, pss_cons (ps_expr (pe_ownS O_check_limit (hr.mono (by decide)) (takes_of rfl rfl rfl rfl) (pa_cons (pv 1) pa_nil)))
      (pss_cons (ps_set (i := 2) sc_best_signs.nd rfl (Or.inl rfl) (pe_int))
      (pss_cons (ps_set (i := 3) sc_best_signs.nd rfl (Or.inl rfl) (pe_op op_sub (pe_fld (pv 0) rfl) (pe_int)))
      (pss_cons (ps_if (pt_not (pt_val (pe_own O_signs_do (hr.mono (by decide)) pass0 (pa_cons (pv 0) (pa_cons (pv 1) (pa_cons (pe_own O_latest_signs (hr.mono (by decide)) pass0 (pa_cons (pv 0) (pa_cons (pv 1) (pa_cons (pv 3) pa_nil)))) pa_nil)))))) (pss_one (ps_ret (pe_non))) (pss_nil))
      (pss_cons (ps_while (passes_of rfl) (pt_cmpR op_lt (pv 2) (pv 3) (nomark _)) (pss_cons (ps_set (i := 4) sc_best_signs.nd rfl (Or.inl rfl) (pe_op op_fdiv (pe_op op_add (pv 2) (pv 3)) (pe_int)))
      (pss_one (ps_if (pt_val (pe_own O_signs_do (hr.mono (by decide)) pass0 (pa_cons (pv 0) (pa_cons (pv 1) (pa_cons (pe_own O_latest_signs (hr.mono (by decide)) pass0 (pa_cons (pv 0) (pa_cons (pv 1) (pa_cons (pv 4) pa_nil)))) pa_nil))))) (pss_one (ps_set (i := 3) sc_best_signs.nd rfl (Or.inl rfl) (pv 4))) (pss_one (ps_set (i := 2) sc_best_signs.nd rfl (Or.inl rfl) (pe_op op_add (pv 4) (pe_int))))))))
      (pss_one (ps_ret (pe_own O_latest_signs (hr.mono (by decide)) pass0 (pa_cons (pv 0) (pa_cons (pv 1) (pa_cons (pv 3) pa_nil)))))))))), ?_⟩
    have hz1 := Z.z1
    have hz2 := Z.z2
    refine ⟨_, rfl, v, k, rfl, hk, fun hb => ?_, fun hb e he => hE hb e he⟩
    obtain ⟨lim, rfl, l1, l2⟩ := bt hb
    obtain ⟨hN, hS⟩ := hQ lim rfl l1 l2
    obtain ⟨dx, hpi⟩ := id hp
    obtain ⟨hi, ehi⟩ : ∃ n : Nat, z - 1 = (n : Int) := ⟨(z - 1).toNat, by omega⟩
    refine ⟨_, rfl, p, A.Lull, dx, _, _, rfl, hpi, T.Lull.cl, T.c_quiet, rfl, _, _, rfl, rfl, ?_⟩
    dsimp only
    rw [ehi]
    refine ⟨_, rfl, _, rfl, _, rfl, _, rfl, _, rfl, p, lim, d, t, L, z, hi, rfl, hp, Z, l1, l2, by omega, fun q H1 e1 hq => ?_⟩
    refine ⟨p, q, lim, d, t, L, z, _, rfl, hp.ext e1, Z, hq, by rw [lat_len]; omega, fun hok H2 e2 => ⟨_, rfl, iteF ?_⟩, fun hno H2 e2 => ⟨_, rfl, iteT (hN (fun m hm h => hno ?_) _ (e1.trans e2))⟩⟩
    case refine_2 =>
      have h2 := ok_mono (okOf Z) h (hi - m) (by omega)
      rw [show m + (hi - m) = hi by omega] at h2
      exact h2
    have e12 := e1.trans e2
    refine ⟨fun m σ' H' => ∃ (lo h : Nat) (o4 : Option V), σ' = [some (.ref p), some (.int lim), some (.int (lo : Int)), some (.int (h : Int)), o4] ∧ Ext H H' ∧ lo + m = h ∧ h ≤ hi ∧ Ok d t L z lim h ∧ ∀ j, j < lo → ¬ Ok d t L z lim j, ⟨hi, 0, hi, _, rfl, e12, by omega, Nat.le_refl _, hok, fun j hj => absurd hj (Nat.not_lt_zero _)⟩, ?_⟩
    rintro m σ' H' ⟨lo, h, o4, rfl, e, hlm, hhi, hokh, hlo⟩
    refine ⟨_, rfl, _, rfl, _, _, rfl, rfl, _, rfl, ?_⟩
    by_cases hlt : (lo : Int) < (h : Int)
    · rw [decide_eq_true hlt]
      refine iteT ⟨fun σ2 H2 => ∃ m', m' < m ∧ ∃ (lo h : Nat) (o4 : Option V), σ2 = [some (.ref p), some (.int lim), some (.int (lo : Int)), some (.int (h : Int)), o4] ∧ Ext H H2 ∧ lo + m' = h ∧ h ≤ hi ∧ Ok d t L z lim h ∧ ∀ j, j < lo → ¬ Ok d t L z lim j, fun σ2 H2 z => z, ?_⟩
      refine ⟨_, rfl, _, rfl, _, _, rfl, rfl, _, _, rfl, rfl, ⟨by decide, by decide⟩, ?_⟩
      obtain ⟨mid, em⟩ : ∃ mid : Nat, ((lo : Int) + (h : Int)) / 2 = (mid : Int) := ⟨(lo + h) / 2, by omega⟩
      dsimp only
      rw [em]
      have hm1 : lo ≤ mid := by omega
      have hm2 : mid < h := by omega
      refine ⟨_, rfl, _, rfl, _, rfl, _, rfl, _, rfl, p, lim, d, t, L, z, mid, rfl, hp.ext e, Z, l1, l2, by omega, fun q2 H3 e3 hq2 => ?_⟩
      refine ⟨p, q2, lim, d, t, L, z, _, rfl, hp.ext (e.trans e3), Z, hq2, by rw [lat_len]; omega, fun hok2 H4 e4 => ⟨_, rfl, iteT ?_⟩, fun hno2 H4 e4 => ⟨_, rfl, iteF ?_⟩⟩
      · refine ⟨_, rfl, mid - lo, by omega, lo, mid, _, rfl, (e.trans e3).trans e4, by omega, by omega, hok2, hlo⟩
      · refine ⟨_, rfl, _, _, rfl, rfl, h - (mid + 1), by omega, mid + 1, h, _, rfl, (e.trans e3).trans e4, by omega, hhi, hokh, fun j hj hj2 => hno2 ?_⟩
        have h2 := ok_mono (okOf Z) hj2 (mid - j) (by omega)
        rw [show j + (mid - j) = mid by omega] at h2
        exact h2
    · rw [decide_eq_false hlt]
      refine iteF ?_
      have hlh : lo = h := by omega
      subst hlh
      refine ⟨_, rfl, _, rfl, _, rfl, p, lim, d, t, L, z, lo, rfl, hp.ext e, Z, l1, l2, by omega, fun q2 H3 e3 hq2 => ?_⟩
      exact hS lo ⟨hokh, hlo, by omega⟩ q2 _ (e.trans e3) hq2
end
end K33

set_option Elab.async false
set_option maxRecDepth 100000
set_option maxHeartbeats 4000000
namespace K33
open PySem PySem.Spec PyProof.Rows L2
section
variable {P : Program} {w : World} {K : PySem.W.Frag} {mg : Str → Option Value} {base : Heap} {A : Ad}
def spIsList : Sp := fun vs H Q _ => ∃ v k, vs = [v] ∧ KndOf H v k ∧ ∀ H', Ext H H' → Q (.bl k.isSeq) H'
def spChecked (A : Ad) : Sp := fun vs H Q _ => ∃ (p q : Addr) (d t l z : Int) (S : List Int), vs = [.ref p, .ref q] ∧ LullAt A H p d t l z ∧ H q = some (.tup (S.map V.int)) ∧ S.length ≤ 1000 ∧ Rise z S ∧ ∀ H', Ext H H' → Q .non H'
def spStops (K : PySem.W.Frag) (A : Ad) : Sp := fun vs H Q _ => ∃ (p q : Addr) (d t : Int) (L : Nat) (z : Int) (S : List Int), vs = [.ref p, .ref q] ∧ LullAt A H p d t (L : Int) z ∧ Sizes d t L z ∧ H q = some (.tup (S.map V.int)) ∧ S.length ≤ 1000 ∧ Rise z S ∧
  ∀ r H', Ext H H' → H' r = some (.tup ((stL d t z L S).map V.int)) → Q (.ref r) H'
def spQuietGap (A : Ad) : Sp := fun vs H Q _ => ∃ (p q : Addr) (d t : Int) (L : Nat) (z : Int) (S : List Int), vs = [.ref p, .ref q] ∧ LullAt A H p d t (L : Int) z ∧ Sizes d t L z ∧ H q = some (.tup (S.map V.int)) ∧ S.length ≤ 1000 ∧ Rise z S ∧
  ∀ m H', Ext H H' → Gap d t L z S m → Q (.int m) H'
end
/-! ### what is drawn by -/
def PoolD (H : Hp) (st : Addr) : Prop := ∃ a b : Int, H st = some (.lst [.int a, .int b]) ∧ 0 ≤ b ∧ b < 2147483647
def ExtM (st : Addr) (H H' : Hp) : Prop := ∀ x o, x ≠ st → H x = some o → H' x = some o
theorem ExtM.rfl' {st : Addr} {H : Hp} : ExtM st H H := fun _ _ _ h => h
theorem ExtM.trans {st : Addr} {H H1 H2 : Hp} (a : ExtM st H H1) (c : ExtM st H1 H2) : ExtM st H H2 := fun x o h e => c x o h (a x o h e)
theorem Ext.m {st : Addr} {H H' : Hp} (h : Ext H H') : ExtM st H H' := fun x o _ e => h x o e
theorem PoolD.ext {st : Addr} {H H' : Hp} (h : PoolD H st) (e : Ext H H') : PoolD H' st := by
  obtain ⟨a, b, hs, h⟩ := h
  exact ⟨a, b, e _ _ hs, h⟩
theorem PoolD.new {st l : Addr} {H : Hp} (h : PoolD H st) (hl : H l = none) : l ≠ st := by
  obtain ⟨a, b, hs, _⟩ := h
  exact (ne_of_none hs hl).symm
theorem ExtM.none {st t : Addr} {H H' : Hp} (e : ExtM st H H') (h1 : t ≠ st) (h : H' t = none) : H t = none := by
  cases z : H t with
  | none => rfl
  | some o =>
    rw [e t o h1 z] at h
    cases h
theorem mut1 {st : Addr} (o : HO) (H1 : Hp) : ExtM st H1 (upd H1 st o) := fun x u hx h => by
  rw [upd_ne hx]
  exact h
section
variable {P : Program} {w : World} {K : PySem.W.Frag} {mg : Str → Option Value} {base : Heap} {A : Ad}
def spPool (K : PySem.W.Frag) : Sp := fun vs H Q _ => ∃ (sc : Addr) (ns : List Int) (k : Nat), vs = [.ref sc, .int (k : Int)] ∧ SqL K H sc (ns.map V.int) ∧ ns.length ≤ 63 ∧ k ≤ 100 ∧ ∀ st H', Ext H H' → H st = none → PoolD H' st → Q (.ref st) H'
theorem ok_pool {f : Addr} {fd : FuncData} (F : Fun K "_law_pool" "_law_pool" s__law_pool f fd) (T : Txt K mg A) : FnOk P w K mg base CX0 1 f fd pm__law_pool (spPool K) := by
  refine F.ok sc__law_pool (fun vs H Q E h => ?_) (fun cdv A' outer s H vs Q E hr h => ?_)
  · obtain ⟨_, _, _, rfl, _⟩ := h
    rfl
  · obtain ⟨sc, ns, k, rfl, hs, hl, hk, q⟩ := h
    refine ⟨_, pss_cons (ps_set (i := 2) sc__law_pool.nd rfl (Or.inl rfl) (pe_int))
      (Evl.pss_cut (ps_if (pt_cmpR op_lt (pv 1) (pe_callB call_len_seq (by rfl) T.n_len (by decide +kernel) (pa_cons (pv 0) pa_nil)) (nomark _)) (pss_one (ps_set (i := 2) sc__law_pool.nd rfl (Or.inl rfl) (pe_ix ix_list (pv 0) (pv 1) (fun _ _ => rfl)))) (pss_nil))
      (pss_cons (ps_set (i := 3) sc__law_pool.nd rfl (Or.inl rfl) (pe_callB (call_max2 rfl) (by rfl) T.n_max (by decide +kernel) (pa_cons (pe_callTy call_int1 (by rfl) T.n_int (by decide +kernel) (pa_cons (pv 2) pa_nil)) (pa_cons (pe_callTy call_int1 (by rfl) T.n_int (by decide +kernel) (pa_cons (pe_op op_sub (pe_un un_neg (pe_int)) (pv 2)) pa_nil)) pa_nil))))
      (pss_cons (ps_set (i := 4) sc__law_pool.nd rfl (Or.inl rfl) (pe_op op_mod (pe_callTy call_int1 (by rfl) T.n_int (by decide +kernel) (pa_cons (pe_op op_mul (pe_op op_add (pe_op op_add (pe_op op_add (pe_op op_mod (pe_callTy call_int1 (by rfl) T.n_int (by decide +kernel) (pa_cons (pv 3) pa_nil)) (pe_int)) (pe_op op_mul (pe_op op_mul (pe_int) (pv 1)) (pv 1))) (pe_op op_mul (pe_int) (pv 1))) (pe_int)) (pe_int)) pa_nil)) (pe_int)))
      (pss_one (ps_ret (pe_lst (pa_cons (pe_op op_mul (pv 3) (pe_callTy call_int1 (by rfl) T.n_int (by decide +kernel) (pa_cons (pe_cmpR op_ge (pv 3) (pe_op op_pow (pe_int) (pe_int)) (nomark _)) pa_nil))) (pa_cons (pv 4) pa_nil)))))))), ?_⟩
    refine ⟨fun σ H' => ∃ c : Int, σ = [some (.ref sc), some (.int (k : Int)), some (.int c), Option.none, Option.none] ∧ H' = H, ?_, ?_⟩
    · refine ⟨_, rfl, _, rfl, sc, _, rfl, .inl hs, _, _, rfl, rfl, _, rfl, ?_⟩
      rw [List.length_map]
      by_cases hkl : (k : Int) < (ns.length : Int)
      · rw [decide_eq_true hkl]
        refine iteT ⟨_, rfl, _, rfl, sc, _, _, .int (ns.getD k 0), rfl, rfl, hs, atI_nat (get_int (by omega)), _, rfl, rfl⟩
      · rw [decide_eq_false hkl]
        exact iteF ⟨_, rfl, rfl⟩
    · rintro σ H' ⟨c, rfl, rfl⟩
      refine ⟨_, rfl, .inl ⟨_, rfl, _, rfl, _, rfl, _, _, rfl, rfl, .inl ⟨_, rfl, _, _, rfl, ?_⟩⟩⟩
      dsimp only
      generalize (if -1 - c > c then -1 - c else c) = big
      refine ⟨_, rfl, .inl ⟨_, rfl, _, _, rfl, rfl, (show (0 : Int) < 2147483629 by decide), _, rfl, _, _, rfl, rfl, .inl ⟨by decide, by decide⟩, _, rfl, _, _, rfl, rfl, .inl ⟨by omega, by omega⟩, _, _, rfl, rfl, _, rfl, _, _, rfl, rfl, .inl ⟨by decide, by decide⟩, _, _, rfl, rfl, _, _, rfl, rfl, _, _, rfl, rfl, .inr ⟨by decide, by decide⟩, .inl ⟨_, rfl, _, _, rfl, rfl, (show (0 : Int) < 2147483647 by decide), ?_⟩⟩⟩
      refine ⟨_, rfl, _, rfl, _, _, rfl, rfl, ⟨by decide, by decide, by decide⟩, _, _, rfl, rfl, .inr ⟨_, rfl, _, _, rfl, rfl, .inr ?_, _, rfl, by show 2 ≤ sizeLine; decide, fun st hst => ?_⟩⟩
      · split <;> decide
      · exact q st _ (Ext.upd hst) hst ⟨_, _, upd_same, Int.emod_nonneg _ (by decide), Int.emod_lt_of_pos _ (by decide)⟩
def spTake : Sp := fun vs H Q _ => ∃ (st : Addr) (B : Int), vs = [.ref st, .int B] ∧ PoolD H st ∧ 1 ≤ B ∧ B ≤ 100000 ∧ ∀ n H', 0 ≤ n → n < B → PoolD H' st → ExtM st H H' → Q (.int n) H'
theorem ok_take {f : Addr} {fd : FuncData} (F : Fun K "_law_take" "_law_take" s__law_take f fd) (T : Txt K mg A) : FnOk P w K mg base CX0 1 f fd pm__law_take spTake := by
  refine F.ok sc__law_take (fun vs H Q E h => ?_) (fun cdv A' outer s H vs Q E hr h => ?_)
  · obtain ⟨_, _, rfl, _⟩ := h
    rfl
  · obtain ⟨st, B, rfl, ⟨a, b, hst, b0, b1⟩, hB, hB2, k⟩ := h
    refine ⟨_, pss_cons (ps_if (pt_cmpR op_gt (pe_ix ix_list (pv 0) (pe_int) (fun _ _ => rfl)) (pe_int) (nomark _)) (pss_cons (ps_set (i := 2) sc__law_take.nd rfl (Or.inl rfl) (pe_op op_modN (pe_callTy call_int1 (by rfl) T.n_int (by decide +kernel) (pa_cons (pe_ix ix_list (pv 0) (pe_int) (fun _ _ => rfl)) pa_nil)) (pv 1)))
      (pss_cons (ps_asg (pe_op op_fdivN (pe_ix ix_list (pv 0) (pe_int) (fun _ _ => rfl)) (pv 1)) (pg_sub (pv 0) (pe_int) set_list))
      (pss_one (ps_ret (pv 2))))) (pss_nil))
      (pss_cons (ps_asg (pe_op op_mod (pe_callTy call_int1 (by rfl) T.n_int (by decide +kernel) (pa_cons (pe_op op_add (pe_op op_mul (pe_ix ix_list (pv 0) (pe_int) (fun _ _ => rfl)) (pe_int)) (pe_int)) pa_nil)) (pe_int)) (pg_sub (pv 0) (pe_int) set_list))
      (pss_one (ps_ret (pe_op op_modN (pe_callTy call_int1 (by rfl) T.n_int (by decide +kernel) (pa_cons (pe_op op_fdiv (pe_op op_mod (pe_callTy call_int1 (by rfl) T.n_int (by decide +kernel) (pa_cons (pe_op op_mul (pe_ix ix_list (pv 0) (pe_int) (fun _ _ => rfl)) (pe_ix ix_list (pv 0) (pe_int) (fun _ _ => rfl))) pa_nil)) (pe_int)) (pe_int)) pa_nil)) (pv 1))))), ?_⟩
    refine ⟨_, rfl, st, _, 0, .int a, rfl, rfl, SqL.of hst, rfl, _, _, rfl, rfl, _, rfl, ?_⟩
    by_cases ha : a > 0
    · rw [decide_eq_true ha]
      refine iteT ⟨_, rfl, st, _, 0, .int a, rfl, rfl, SqL.of hst, rfl, .inl ⟨_, rfl, _, rfl, _, _, rfl, rfl, (by show B ≠ 0; omega), ?_⟩⟩
      refine ⟨_, rfl, st, _, 0, .int a, rfl, rfl, SqL.of hst, rfl, _, rfl, _, _, rfl, rfl, ⟨by omega, by omega⟩, _, rfl, st, _, 0, 0, rfl, rfl, hst, rfl, ?_⟩
      exact ⟨_, rfl, k _ _ (Int.fmod_nonneg_of_pos _ (by omega)) (Int.fmod_lt_of_pos _ (by omega)) ⟨_, _, upd_same, b0, b1⟩ (mut1 _ _)⟩
    · rw [decide_eq_false ha]
      refine iteF ?_
      refine ⟨_, rfl, st, _, 1, .int b, rfl, rfl, SqL.of hst, rfl, _, _, rfl, rfl, .inr ⟨by decide, by decide⟩, _, _, rfl, rfl, .inl ⟨_, rfl, _, _, rfl, rfl, (show (0 : Int) < 2147483647 by decide), ?_⟩⟩
      refine ⟨_, rfl, st, _, 1, 1, rfl, rfl, hst, rfl, ?_⟩
      have c0 : 0 ≤ (b * 39373 + 7) % 2147483647 := Int.emod_nonneg _ (by decide)
      have c1 : (b * 39373 + 7) % 2147483647 < 2147483647 := Int.emod_lt_of_pos _ (by decide)
      generalize hz : (b * 39373 + 7) % 2147483647 = c at c0 c1
      have hs1 : upd H st (.lst ([V.int a, .int b].set 1 (.int ((b * 39373 + 7) % 2147483647)))) st = some (.lst [.int a, .int c]) := by rw [hz, upd_same]; rfl
      have x1 : ExtM st H (upd H st (.lst ([V.int a, .int b].set 1 (.int ((b * 39373 + 7) % 2147483647))))) := mut1 _ _
      generalize upd H st (.lst ([V.int a, .int b].set 1 (.int ((b * 39373 + 7) % 2147483647)))) = H1 at hs1 x1 ⊢
      refine ⟨_, rfl, st, _, 1, .int c, rfl, rfl, SqL.of hs1, rfl, _, rfl, st, _, 1, .int c, rfl, rfl, SqL.of hs1, rfl, _, _, rfl, rfl, .inl ⟨by omega, by omega⟩, .inl ⟨_, rfl, _, _, rfl, rfl, (show (0 : Int) < 2147483629 by decide), ?_⟩⟩
      refine ⟨_, _, rfl, rfl, ⟨by decide, by decide⟩, .inl ⟨_, rfl, _, rfl, _, _, rfl, rfl, (by show B ≠ 0; omega), ?_⟩⟩
      exact k _ _ (Int.fmod_nonneg_of_pos _ (by omega)) (Int.fmod_lt_of_pos _ (by omega)) ⟨_, _, hs1, c0, c1⟩ x1
def spOne : Sp := fun vs H Q _ => ∃ (st l : Addr) (xs : List V), vs = [.ref st, .ref l] ∧ PoolD H st ∧ H l = some (.lst xs) ∧ l ≠ st ∧ 1 ≤ xs.length ∧ xs.length ≤ 1000 ∧ ∀ (i : Nat) (v : V) H', xs[i]? = some v → PoolD H' st → ExtM st H H' → Q v H'
theorem ok_one {f : Addr} {fd : FuncData} (F : Fun K "_law_one" "_law_one" s__law_one f fd) (T : Txt K mg A) (O__law_take : Own P w K mg base CX0 "_law_take" 1 pm__law_take spTake) : FnOk P w K mg base CX0 2 f fd pm__law_one spOne := by
  refine F.ok sc__law_one (fun vs H Q E h => ?_) (fun cdv A' outer s H vs Q E hr h => ?_)
  · obtain ⟨_, _, _, rfl, _⟩ := h
    rfl
  · obtain ⟨st, l, xs, rfl, hst, hl, hne, h1, h2, k⟩ := h
    refine ⟨_, pss_one (ps_ret (pe_ix ix_list (pv 1) (pe_own O__law_take (hr.mono (by decide)) pass0 (pa_cons (pv 0) (pa_cons (pe_callB call_len_seq (by rfl) T.n_len (by decide +kernel) (pa_cons (pv 1) pa_nil)) pa_nil))) (fun _ _ => rfl))), ?_⟩
    refine ⟨_, rfl, _, rfl, _, rfl, l, xs, rfl, .inl (SqL.of hl), st, _, rfl, hst, by omega, by omega, fun n H1 n0 n1 st1 x1 => ?_⟩
    obtain ⟨i, rfl⟩ : ∃ i : Nat, n = (i : Int) := ⟨n.toNat, by omega⟩
    obtain ⟨v, hv⟩ : ∃ v, xs[i]? = some v := ⟨_, List.getElem?_eq_getElem (by omega)⟩
    exact ⟨l, xs, _, v, rfl, rfl, SqL.of (x1 l _ hne hl), atI_nat hv, k i v H1 hv st1 x1⟩
end
end K33

set_option Elab.async false
set_option maxRecDepth 100000
set_option maxHeartbeats 4000000
namespace K33
open PySem PySem.Spec PyProof.Rows L2
def PlainAt (H : Hp) (p : Addr) (d t l z : Int) : Prop := H p = some (.lst [.int d, .int t, .int l, .int z])
section
variable {P : Program} {w : World} {K : PySem.W.Frag} {mg : Str → Option Value} {base : Heap} {A : Ad}
def spLawStops (K : PySem.W.Frag) : Sp := fun vs H Q _ => ∃ (pl q : Addr) (d t : Int) (L : Nat) (z : Int) (S : List Int), vs = [.ref pl, .ref q] ∧ PlainAt H pl d t (L : Int) z ∧ Sizes d t L z ∧ (SqL K H q (S.map V.int) ∨ SqT K H q (S.map V.int)) ∧ S.length ≤ 1000 ∧
  ∀ r H', Ext H H' → H' r = some (.lst ((stL d t z L S).map V.int)) → Q (.ref r) H'
theorem ok_lawStops {f : Addr} {fd : FuncData} (F : Fun K "_law_stops" "_law_stops" s__law_stops f fd) (T : Txt K mg A) : FnOk P w K mg base CX0 1 f fd pm__law_stops (spLawStops K) := by
  refine F.ok sc__law_stops (fun vs H Q E h => ?_) (fun cdv A' outer s H vs Q E hr h => ?_)
  · obtain ⟨_, _, _, _, _, _, _, rfl, _⟩ := h
    rfl
  · obtain ⟨pl, q, d, t, L, z, S, rfl, hpl, Z, hq, hS, k⟩ := h
    refine ⟨_, pss_cons (ps_asg (pv 0) (pg_unl rfl (pgs_cons (pg_name (i := 2) sc__law_stops.nd rfl (Or.inl rfl)) (pgs_cons (pg_name (i := 3) sc__law_stops.nd rfl (Or.inr rfl)) (pgs_cons (pg_name (i := 4) sc__law_stops.nd rfl (Or.inl rfl)) (pgs_cons (pg_name (i := 5) sc__law_stops.nd rfl (Or.inr rfl)) (pgs_nil)))))))
      (pss_one (ps_ret (pe_op op_cat (pe_op op_cat (pe_lst (pa_cons (pe_op op_mul (pe_un un_neg (pe_int)) (pv 2)) pa_nil)) (pe_callTy call_list_of (by rfl) T.n_list (by decide +kernel) (pa_cons (pv 1) pa_nil))) (pe_lc (own := [("_law_at", 6)]) (g := gName 6) (by rfl) sc__law_stops.nd (pi_range1 rfl T.n_range (pa_cons (pe_op op_add (pv 4) (pe_int)) pa_nil)) (blkOk_by (own := [("_law_at", 6)]) (N := nm__law_stops) (sc := defScope s__law_stops) (by decide +kernel)) (fun _ _ _ _ _ => pg_name (i := 6) sc__law_stops.nd rfl (Or.inl rfl)) (fun s1 H1 C1 cl fp => pts_nil) (fun s1 H1 C1 cl fp => pe_op op_add (pv 5) (pe_op op_mul (pv 6) (pv 3))))))), ?_⟩
    have hL : L ≤ 3 := by have := Z.l2; omega
    have ht : 0 ≤ t ∧ t ≤ 200 := ⟨by have := Z.t1; have := Z.d1; omega, Z.t2⟩
    refine ⟨_, rfl, pl, _, rfl, SqL.of hpl, rfl, _, _, rfl, _, _, rfl, _, _, rfl, _, _, rfl, rfl, ?_⟩
    refine ⟨_, rfl, _, rfl, _, _, rfl, rfl, .inl ⟨by decide, by decide⟩, by show 1 ≤ sizeLine; decide, fun a ha => ?_⟩
    have e1 := Ext.upd (o := .lst [.int (-2 * d)]) ha
    refine ⟨_, rfl, q, _, rfl, hq.imp (fun h => h.ext e1) (fun h => h.ext e1), fun b hb => ?_⟩
    have e2 := Ext.upd (o := .lst (S.map V.int)) hb
    refine ⟨a, b, _, _, rfl, rfl, e2 _ _ upd_same, upd_same, Nat.le_trans (show [V.int (-2 * d)].length + (S.map V.int).length ≤ 1001 by rw [List.length_map]; show 1 + S.length ≤ 1001; omega) (by decide), fun c hc => ?_⟩
    have e3 := Ext.upd (o := .lst ([V.int (-2 * d)] ++ S.map V.int)) hc
    have e03 := (e1.trans e2).trans e3
    refine ⟨_, rfl, _, _, rfl, rfl, _, rfl, by omega, by omega, lc_rgR (b := fun _ => true) (f := fun i => .int (z + (i : Int) * t)) (by show _ < 16777216; omega) (fun x => rfl) (fun i hi H' e' Q' q' => q' _ Ext.rfl') (fun i hi _ H' e' Q' q' => ?_) (fun D H4 hD e4 hl => ?_)⟩
    · refine ⟨_, rfl, _, rfl, _, rfl, _, _, rfl, rfl, .inr ⟨by omega, by omega⟩, _, _, rfl, rfl, ?_⟩
      rw [Int.zero_add]
      exact q' _ Ext.rfl'
    · rw [L2.filter_all, show ((L : Int) + 1).toNat = L + 1 by omega] at hl
      refine ⟨c, D, _, _, rfl, rfl, e4 _ _ upd_same, hl, Nat.le_trans (show _ ≤ 1100 by simp; omega) (by decide), fun r hr => k r _ ((e03.trans e4).trans (Ext.upd hr)) ?_⟩
      rw [upd_same]
      congr 2
      simp [stL]
def spLawGap (K : PySem.W.Frag) : Sp := fun vs H Q _ => ∃ (pl q : Addr) (d t : Int) (L : Nat) (z : Int) (S : List Int), vs = [.ref pl, .ref q] ∧ PlainAt H pl d t (L : Int) z ∧ Sizes d t L z ∧ (SqL K H q (S.map V.int) ∨ SqT K H q (S.map V.int)) ∧ S.length ≤ 1000 ∧
  ∀ m H', Ext H H' → Gap d t L z S m → Q (.int m) H'
theorem ok_lawGap {f : Addr} {fd : FuncData} (F : Fun K "_law_gap" "_law_gap" s__law_gap f fd) (T : Txt K mg A) (O__law_stops : Own P w K mg base CX0 "_law_stops" 1 pm__law_stops (spLawStops K)) : FnOk P w K mg base CX0 2 f fd pm__law_gap (spLawGap K) := by
  refine F.ok sc__law_gap (fun vs H Q E h => ?_) (fun cdv A' outer s H vs Q E hr h => ?_)
  · obtain ⟨_, _, _, _, _, _, _, rfl, _⟩ := h
    rfl
  · obtain ⟨pl, q, d, t, L, z, S, rfl, hpl, Z, hq, hS, k⟩ := h
    refine ⟨_, pss_cons (ps_par (i := 2) (j := 3) (by rfl) sc__law_gap.nd rfl rfl (by decide) rfl rfl (pa_cons (pe_own O__law_stops (hr.mono (by decide)) pass0 (pa_cons (pv 0) (pa_cons (pv 1) pa_nil))) (pa_cons (pe_op op_add (pe_ix ix_list (pv 0) (pe_int) (fun _ _ => rfl)) (pe_int)) pa_nil)) (by rfl))
      (pss_cons (ps_set (i := 4) sc__law_gap.nd rfl (Or.inl rfl) (pe_op op_sub (pe_ix ix_list (pv 2) (pv 3) (fun _ _ => rfl)) (pe_ix ix_list (pv 2) (pe_int) (fun _ _ => rfl))))
      (pss_cons (ps_for PassesOwn.never rfl (pi_range1 rfl T.n_range (pa_cons (pe_op op_add (pe_callB call_len_seq (by rfl) T.n_len (by decide +kernel) (pa_cons (pv 1) pa_nil)) (pe_int)) pa_nil)) (pg_name (i := 5) sc__law_gap.nd rfl (Or.inl rfl)) (pss_one (ps_set (i := 4) sc__law_gap.nd rfl (Or.inl rfl) (pe_callB (call_max2 rfl) (by rfl) T.n_max (by decide +kernel) (pa_cons (pe_callTy call_int1 (by rfl) T.n_int (by decide +kernel) (pa_cons (pv 4) pa_nil)) (pa_cons (pe_callTy call_int1 (by rfl) T.n_int (by decide +kernel) (pa_cons (pe_op op_sub (pe_ix ix_list (pv 2) (pe_op op_add (pv 5) (pv 3)) (fun _ _ => rfl)) (pe_ix ix_list (pv 2) (pv 5) (fun _ _ => rfl))) pa_nil)) pa_nil))))))
      (pss_one (ps_ret (pv 4))))), ?_⟩
    have hlen : (stL d t z L S).length = S.length + L + 2 := stL_len
    refine ⟨_, rfl, _, rfl, pl, q, d, t, L, z, S, rfl, hpl, Z, hq, hS, fun r H1 e1 hr1 => ?_⟩
    refine ⟨_, rfl, pl, _, 2, .int (L : Int), rfl, rfl, SqL.of (e1 _ _ hpl), rfl, _, _, rfl, rfl, _, _, rfl, ?_⟩
    have hr2 := hr1
    have e12 := e1
    have at_ : ∀ (j : Nat) (y : Int), y = (j : Int) → j < S.length + L + 2 → atI ((stL d t z L S).map V.int) y = some (.int (st d t z S j)) := fun j y hy hj => by
      rw [hy, ← stL_get hj]
      exact atI_nat (get_int (by omega))
    refine ⟨_, rfl, _, rfl, r, _, _, .int (st d t z S (L + 1)), rfl, rfl, SqL.of hr2, at_ (L + 1) _ (by omega) (by omega), _, rfl, r, _, 0, .int (st d t z S 0), rfl, rfl, SqL.of hr2, at_ 0 _ rfl (by omega), _, _, rfl, rfl, ?_⟩
    have hq2 : SqL K H1 q (S.map V.int) ∨ SqT K H1 q (S.map V.int) := hq.imp (fun h => h.ext e12) (fun h => h.ext e12)
    refine ⟨_, rfl, q, _, rfl, hq2, _, _, rfl, rfl, _, rfl, by omega, by rw [List.length_map]; omega, ?_⟩
    rw [List.length_map, show ((S.length : Int) + 1).toNat = S.length + 1 by omega]
    refine for_range (fun i σ' H' => H' = H1 ∧ ∃ (o5 : Option V) (b : Int), σ' = [some (.ref pl), some (.ref q), some (.ref r), some (.int ((L : Int) + 1)), some (.int b), o5] ∧ (∃ j, j ≤ S.length ∧ st d t z S (j + (L + 1)) - st d t z S j = b) ∧ ∀ j, j < i → st d t z S (j + (L + 1)) - st d t z S j ≤ b) ⟨rfl, _, _, rfl, ⟨0, by omega, by rw [Nat.zero_add]⟩, fun j hj => absurd hj (Nat.not_lt_zero _)⟩ (fun i σ' H' hi pv => ?_) (fun σ' H' pv => ?_)
    · obtain ⟨rfl, o5, b, rfl, ⟨j, hj, hb⟩, hall⟩ := pv
      refine ⟨_, rfl, .inl ⟨_, rfl, _, rfl, _, rfl, _, rfl, _, _, rfl, rfl, r, _, _, .int (st d t z S (i + (L + 1))), rfl, rfl, SqL.of hr2, at_ (i + (L + 1)) _ (by omega) (by omega), _, rfl, _, rfl, r, _, _, .int (st d t z S i), rfl, rfl, SqL.of hr2, at_ i _ (by omega) (by omega), _, _, rfl, rfl, .inl ⟨_, rfl, _, _, rfl, ?_⟩⟩⟩
      refine ⟨rfl, _, _, rfl, ?_, fun j' hj' => ?_⟩
      · split
        · exact ⟨i, by omega, rfl⟩
        · exact ⟨j, hj, hb⟩
      · by_cases e : j' < i
        · have := hall j' e
          split <;> omega
        · rw [show j' = i by omega]
          split <;> omega
    · obtain ⟨rfl, o5, b, rfl, ⟨j, hj, hb⟩, hall⟩ := pv
      exact ⟨_, rfl, k b _ e12 ⟨⟨j, hj, hb⟩, fun j' hj' => hall j' (by omega)⟩⟩
end
end K33

set_option Elab.async false
set_option maxRecDepth 100000
set_option maxHeartbeats 4000000
namespace K33
open PySem PySem.Spec PyProof.Rows L2
/-- tuples of ints, one by one -/
def TAll (H : Hp) : List V → List (List Int) → Prop
  | [], [] => True
  | v :: vs, S :: SS => (∃ a, v = .ref a ∧ H a = some (.tup (S.map V.int))) ∧ TAll H vs SS
  | _, _ => False
theorem TAll.ext {H H' : Hp} (e : Ext H H') : ∀ {vs : List V} {SS : List (List Int)}, TAll H vs SS → TAll H' vs SS
  | [], [], _ => trivial
  | _ :: _, _ :: _, ⟨⟨a, h1, h2⟩, h⟩ => ⟨⟨a, h1, e _ _ h2⟩, TAll.ext e h⟩
theorem TAll.len {H : Hp} : ∀ {vs : List V} {SS : List (List Int)}, TAll H vs SS → vs.length = SS.length
  | [], [], _ => rfl
  | _ :: _, _ :: _, ⟨_, h⟩ => congrArg (· + 1) (TAll.len h)
theorem TAll.app {H : Hp} : ∀ {vs ws : List V} {SS TT : List (List Int)}, TAll H vs SS → TAll H ws TT → TAll H (vs ++ ws) (SS ++ TT)
  | [], _, [], _, _, h => h
  | _ :: _, _, _ :: _, _, ⟨h1, h⟩, h2 => ⟨h1, TAll.app h h2⟩
theorem TAll.get {H : Hp} : ∀ {vs : List V} {SS : List (List Int)} {i : Nat} {v : V}, TAll H vs SS → vs[i]? = some v → ∃ a S, v = .ref a ∧ H a = some (.tup (S.map V.int)) ∧ SS[i]? = some S
  | _ :: _, S :: _, 0, _, ⟨⟨a, h1, h2⟩, _⟩, h => by
    cases h
    exact ⟨a, S, h1, h2, rfl⟩
  | _ :: vs, _ :: SS, i + 1, v, ⟨_, h1⟩, h => TAll.get (i := i) h1 (by simpa using h)
theorem TAll.one {H : Hp} {a : Addr} {S : List Int} (h : H a = some (.tup (S.map V.int))) : TAll H [.ref a] [S] := ⟨⟨a, rfl, h⟩, trivial⟩
theorem take_snoc' {α β : Type} {f : α → List β} {l : List α} {i : Nat} {x : α} (h : l[i]? = some x) : (l.take (i + 1)).flatMap f = (l.take i).flatMap f ++ f x := by
  rw [take_snoc h, List.flatMap_append]
  simp
theorem atI_neg {S : List Int} (h : S ≠ []) : atI (S.map V.int) (-1) = some (.int (lastP S)) := by
  have hl : S.length ≠ 0 := fun z => h (List.eq_nil_of_length_eq_zero z)
  obtain ⟨S0, a, rfl, h0⟩ := snoc_of (S := S) (n := S.length - 1) (by omega)
  rw [List.map_append, show [a].map V.int = [V.int a] from rfl, atI_last]
  unfold lastP prev
  rw [if_neg hl, List.length_append, show S0.length + [a].length - 1 = S0.length from rfl, getD_last]
theorem TAll.updL {H : Hp} {D : Addr} {acc : List V} {o : HO} (hD : H D = some (.lst acc)) : ∀ {vs : List V} {SS : List (List Int)}, TAll H vs SS → TAll (upd H D o) vs SS
  | [], [], _ => trivial
  | _ :: _, _ :: _, ⟨⟨a, h1, h2⟩, h⟩ => ⟨⟨a, h1, by rw [upd_ne (fun z => by rw [z, hD] at h2; cases h2)]; exact h2⟩, TAll.updL hD h⟩
theorem step_len {z : Int} {S : List Int} : (step z S).length = (z - (lastP S + 1)).toNat := by simp [step]
theorem step_take {z : Int} {S : List Int} {q : Nat} (h : q < (z - (lastP S + 1)).toNat) : (step z S).take (q + 1) = (step z S).take q ++ [S ++ [lastP S + 1 + (q : Int)]] := by
  unfold step
  rw [List.take_add_one, List.getElem?_map, List.getElem?_range h]
  rfl
theorem flat_take (z : Int) (SS : List (List Int)) (j : Nat) : ((SS.take j).flatMap (step z)).length ≤ (SS.flatMap (step z)).length := by
  have h : SS.flatMap (step z) = (SS.take j).flatMap (step z) ++ (SS.drop j).flatMap (step z) := by rw [← List.flatMap_append, List.take_append_drop]
  rw [h, List.length_append]
  omega
theorem lastP_high {z : Int} {S : List Int} (hz : 1 ≤ z) (h : Rise z S) : lastP S ≤ z - 1 := by
  unfold lastP prev
  by_cases h0 : S.length = 0
  · rw [if_pos h0]
    omega
  · rw [if_neg h0]
    exact (h (S.length - 1) (by omega)).2
section
variable {P : Program} {w : World} {K : PySem.W.Frag} {mg : Str → Option Value} {base : Heap} {A : Ad}
def spSubsets : Sp := fun vs H Q _ => ∃ (z : Int) (n : Nat), vs = [.int z, .int (n : Int)] ∧ 1 ≤ z ∧ z ≤ 8 ∧ n ≤ 7 ∧ ∀ r ws H', H r = none → Ext H H' → H' r = some (.lst ws) → TAll H' ws (subs z n) → Q (.ref r) H'
theorem ok_subsets {f : Addr} {fd : FuncData} (F : Fun K "_law_subsets" "_law_subsets" s__law_subsets f fd) (T : Txt K mg A) : FnOk P w K mg base CX0 1 f fd pm__law_subsets spSubsets := by
  refine F.ok sc__law_subsets (fun vs H Q E h => ?_) (fun cdv A' outer s H vs Q E hr h => ?_)
  · obtain ⟨_, _, rfl, _⟩ := h
    rfl
  · obtain ⟨z, n, rfl, z1, z8, hn, k⟩ := h
    refine ⟨_, pss_cons (ps_set (i := 2) sc__law_subsets.nd rfl (Or.inl rfl) (pe_lst (pa_cons (pe_tup (pa_nil)) pa_nil)))
      (pss_cons (ps_for PassesOwn.never rfl (pi_range1 rfl T.n_range (pa_cons (pv 1) pa_nil)) (pg_name (i := 3) sc__law_subsets.nd rfl (Or.inl rfl)) (pss_cons (ps_set (i := 4) sc__law_subsets.nd rfl (Or.inl rfl) (pe_lst (pa_nil)))
      (pss_cons (ps_for PassesOwn.never rfl (pi_list (pv 2)) (pg_name (i := 5) sc__law_subsets.nd rfl (Or.inr rfl)) (pss_one (ps_set (i := 4) sc__law_subsets.nd rfl (Or.inl rfl) (pe_op op_cat (pv 4) (pe_lc (own := [("_law_at", 6)]) (g := gName 6) (by rfl) sc__law_subsets.nd (pi_range2 rfl T.n_range (pa_cons (pe_ifExp (pt_cmpR (op_neD hr.units) (pv 5) (pe_tup (pa_nil)) (nomark _)) (pe_op op_add (pe_ix ix_tup (pv 5) (pe_un un_neg (pe_int)) (fun _ _ => rfl)) (pe_int)) (pe_int)) (pa_cons (pv 0) pa_nil))) (blkOk_by (own := [("_law_at", 6)]) (N := nm__law_subsets) (sc := defScope s__law_subsets) (by decide +kernel)) (fun _ _ _ _ _ => pg_name (i := 6) sc__law_subsets.nd rfl (Or.inl rfl)) (fun s1 H1 C1 cl fp => pts_nil) (fun s1 H1 C1 cl fp => pe_op op_catE (pv 5) (pe_tup (pa_cons (pv 6) pa_nil))))))))
      (pss_one (ps_set (i := 2) sc__law_subsets.nd rfl (Or.inl rfl) (pv 4))))))
      (pss_one (ps_ret (pv 2)))), ?_⟩
    refine ⟨by show 0 ≤ sizeLine; decide, fun e he => ⟨by show 1 ≤ sizeLine; decide, fun r0 hr0 => ?_⟩⟩
    have e0 := (Ext.upd (o := .tup []) he).trans (Ext.upd (o := .lst [.ref e]) hr0)
    refine ⟨_, rfl, _, rfl, by omega, by omega, ?_⟩
    rw [Int.toNat_natCast]
    refine for_range (fun i σ' H' => ∃ (r : Addr) (ws : List V) (o3 o4 o5 : Option V), σ' = [some (.int z), some (.int (n : Int)), some (.ref r), o3, o4, o5, Option.none] ∧ H r = Option.none ∧ Ext H H' ∧ H' r = some (.lst ws) ∧ TAll H' ws (subs z i)) ⟨r0, _, _, _, _, rfl, ext_none (Ext.upd he) hr0, e0, upd_same, TAll.one (S := []) (Ext.upd hr0 _ _ upd_same)⟩ (fun i σ' H' hi pv => ?_) (fun σ' H' pv => ?_)
    · obtain ⟨r, ws, o3, o4, o5, rfl, hrn, e1, hr1, ht⟩ := pv
      have hlen : (subs z i).length ≤ 7 ^ i := subs_len z8 i
      have hlen1 : (subs z (i + 1)).length ≤ 1000000 := Nat.le_trans (subs_len z8 (i + 1)) (pow7 (by omega))
      refine ⟨by show 0 ≤ sizeLine; decide, fun m0 hm0 => ?_⟩
      have e2 := e1.trans (Ext.upd (o := .lst []) hm0)
      have er : Ext H' (upd H' m0 (.lst [])) := Ext.upd hm0
      refine ⟨_, rfl, r, rfl, ⟨ws, SqL.of (er _ _ hr1)⟩, ?_⟩
      refine for_list (xs := ws) (fun j σ' H2 => ∃ (m : Addr) (us : List V) (o5 : Option V), σ' = [some (.int z), some (.int (n : Int)), some (.ref r), some (.int (0 + (i : Int))), some (.ref m), o5, Option.none] ∧ H m = Option.none ∧ Ext H H2 ∧ Ext H' H2 ∧ H2 m = some (.lst us) ∧ TAll H2 us (((subs z i).take j).flatMap (step z))) ⟨m0, [], _, rfl, ext_none e1 hm0, e2, er, upd_same, trivial⟩ (fun j σ' H2 _ pv => ?_) (fun j x σ' H2 hx pv => ?_) (fun σ' H2 pv => ?_)
      · obtain ⟨m, us, o5, rfl, hmn, e3, e3', hm, hu⟩ := pv
        exact SqL.of (e3' _ _ hr1)
      · obtain ⟨m, us, o5, rfl, hmn, e3, e3', hm, hu⟩ := pv
        obtain ⟨a, S, rfl, ha, hS⟩ := TAll.get ht hx
        have ha3 := e3' _ _ ha
        have hlS : S.length = i ∧ Rise z S := mem_subs.mp (List.mem_of_getElem? hS)
        have hlow := lastP_low hlS.2
        refine ⟨_, rfl, _, rfl, by show 0 ≤ sizeLine; decide, fun e2 he2 => ?_⟩
        have ee := Ext.upd (o := .tup []) he2
        refine neD_tup (vs := S.map V.int) (us := ([] : List Int).map V.int) (SqT.of (ee _ _ ha3)) (SqT.of upd_same) fl_ints fl_ints ⟨_, rfl, ?_⟩
        rw [eqv_ints]
        have hhigh := lastP_high z1 hlS.2
        by_cases h0 : S = []
        · have hl0 : lastP S = 0 := by rw [h0]; rfl
          rw [decide_eq_true h0]
          refine iteF ?_
          refine ⟨_, rfl, (1 : Int), z, rfl, ⟨by omega, by omega, by omega, by omega⟩, fun D hD => ?_⟩
          refine lc_range (lo := (1 : Int)) (n := (z - ((1 : Int))).toNat) (fun q H3 => ∃ us2, Ext (upd H2 e2 (.tup [])) H3 ∧ H3 D = some (.lst us2) ∧ TAll H3 us2 ((step z S).take q)) ⟨[], Ext.upd hD, upd_same, trivial⟩ (fun q H3 hq pv => ?_) (fun H3 pv => ?_)
          · obtain ⟨us2, e4, hD3, hu2⟩ := pv
            have tk : (step z S).take (q + 1) = (step z S).take q ++ [S ++ [lastP S + 1 + (q : Int)]] := step_take (by rw [hl0]; omega)
            have hl2 := TAll.len hu2
            have hl3 : ((step z S).take q).length ≤ 1000 := by rw [List.length_take]; omega
            refine ⟨rfl, _, rfl, _, rfl, by show 1 ≤ sizeLine; decide, fun t ht => ⟨a, t, _, _, rfl, rfl, Ext.upd ht _ _ (e4 _ _ (ee _ _ ha3)), upd_same, Nat.le_trans (show _ ≤ 100 by rw [List.length_map, hlS.1]; show i + 1 ≤ 100; omega) (by decide), fun p H5 e5 hp5 => ?_⟩⟩
            have e35 := (Ext.upd (o := .tup [V.int ((1 : Int) + (q : Int))]) ht).trans e5
            refine ⟨us2, e35 _ _ hD3, small_sz (by omega), us2 ++ [.ref p], ext_mut (e4.trans e35) hD, upd_same, ?_⟩
            rw [tk]
            exact (hu2.ext e35).updL (e35 _ _ hD3) |>.app (TAll.one (by rw [upd_ne (fun z => by rw [z, e35 _ _ hD3] at hp5; cases hp5)]; rw [hp5, List.map_append, hl0]; rfl))
          · obtain ⟨us2, e4, hD3, hu2⟩ := pv
            rw [List.take_of_length_le (by rw [step_len, hl0]; exact Nat.le_refl _)] at hu2
            have hm3 := (ee.trans e4) _ _ hm
            have hu3 := hu.ext (ee.trans e4)
            have hall := hu3.app hu2
            rw [← take_snoc' hS] at hall
            have hsz : (us ++ us2).length ≤ 1000000 := by
              rw [TAll.len hall]
              exact Nat.le_trans (flat_take _ _ _) hlen1
            refine ⟨m, D, us, us2, rfl, rfl, hm3, hD3, Nat.le_trans (by rw [← List.length_append]; exact hsz) (by decide), fun r2 hr2 => ?_⟩
            have e6 := Ext.upd (o := .lst (us ++ us2)) hr2
            exact ⟨r2, us ++ us2, _, rfl, ext_none ((e3.trans ee).trans e4) hr2, ((e3.trans ee).trans e4).trans e6, ((e3'.trans ee).trans e4).trans e6, upd_same, hall.ext e6⟩
        · rw [decide_eq_false h0]
          refine iteT ⟨_, rfl, _, rfl, a, _, _, .int (lastP S), rfl, rfl, SqT.of (ee _ _ ha3), atI_neg h0, _, _, rfl, rfl, ?_⟩
          refine ⟨_, rfl, (lastP S + 1), z, rfl, ⟨by omega, by omega, by omega, by omega⟩, fun D hD => ?_⟩
          refine lc_range (lo := (lastP S + 1)) (n := (z - ((lastP S + 1))).toNat) (fun q H3 => ∃ us2, Ext (upd H2 e2 (.tup [])) H3 ∧ H3 D = some (.lst us2) ∧ TAll H3 us2 ((step z S).take q)) ⟨[], Ext.upd hD, upd_same, trivial⟩ (fun q H3 hq pv => ?_) (fun H3 pv => ?_)
          · obtain ⟨us2, e4, hD3, hu2⟩ := pv
            have tk : (step z S).take (q + 1) = (step z S).take q ++ [S ++ [lastP S + 1 + (q : Int)]] := step_take (by omega)
            have hl2 := TAll.len hu2
            have hl3 : ((step z S).take q).length ≤ 1000 := by rw [List.length_take]; omega
            refine ⟨rfl, _, rfl, _, rfl, by show 1 ≤ sizeLine; decide, fun t ht => ⟨a, t, _, _, rfl, rfl, Ext.upd ht _ _ (e4 _ _ (ee _ _ ha3)), upd_same, Nat.le_trans (show _ ≤ 100 by rw [List.length_map, hlS.1]; show i + 1 ≤ 100; omega) (by decide), fun p H5 e5 hp5 => ?_⟩⟩
            have e35 := (Ext.upd (o := .tup [V.int ((lastP S + 1) + (q : Int))]) ht).trans e5
            refine ⟨us2, e35 _ _ hD3, small_sz (by omega), us2 ++ [.ref p], ext_mut (e4.trans e35) hD, upd_same, ?_⟩
            rw [tk]
            exact (hu2.ext e35).updL (e35 _ _ hD3) |>.app (TAll.one (by rw [upd_ne (fun z => by rw [z, e35 _ _ hD3] at hp5; cases hp5)]; rw [hp5, List.map_append]; rfl))
          · obtain ⟨us2, e4, hD3, hu2⟩ := pv
            rw [List.take_of_length_le (by rw [step_len]; exact Nat.le_refl _)] at hu2
            have hm3 := (ee.trans e4) _ _ hm
            have hu3 := hu.ext (ee.trans e4)
            have hall := hu3.app hu2
            rw [← take_snoc' hS] at hall
            have hsz : (us ++ us2).length ≤ 1000000 := by
              rw [TAll.len hall]
              exact Nat.le_trans (flat_take _ _ _) hlen1
            refine ⟨m, D, us, us2, rfl, rfl, hm3, hD3, Nat.le_trans (by rw [← List.length_append]; exact hsz) (by decide), fun r2 hr2 => ?_⟩
            have e6 := Ext.upd (o := .lst (us ++ us2)) hr2
            exact ⟨r2, us ++ us2, _, rfl, ext_none ((e3.trans ee).trans e4) hr2, ((e3.trans ee).trans e4).trans e6, ((e3'.trans ee).trans e4).trans e6, upd_same, hall.ext e6⟩
      · obtain ⟨m, us, o5, rfl, hmn, e3, e3', hm, hu⟩ := pv
        rw [TAll.len ht, List.take_length] at hu
        exact ⟨_, rfl, m, us, _, _, _, rfl, hmn, e3, hm, hu⟩
    · obtain ⟨r, ws, o3, o4, o5, rfl, hrn, e1, hr1, ht⟩ := pv
      exact ⟨_, rfl, k r ws _ hrn e1 hr1 ht⟩
end
end K33

set_option Elab.async false
set_option maxRecDepth 100000
set_option maxHeartbeats 4000000
namespace K33
open PySem PySem.Spec PyProof.Rows L2
theorem cut_tail (p : Int) (l : List Int) : cutV ((p :: l).map V.int) (some 1) none = l.map V.int := by
  show (((p :: l).map V.int).drop (if (1 : Int) < 0 then ((1 : Int) + (((p :: l).map V.int).length : Int)).toNat else min ((1 : Int).toNat) ((p :: l).map V.int).length)).take (((p :: l).map V.int).length - (if (1 : Int) < 0 then ((1 : Int) + (((p :: l).map V.int).length : Int)).toNat else min ((1 : Int).toNat) ((p :: l).map V.int).length)) = _
  rw [if_neg (by decide), List.length_map, List.length_cons, show min ((1 : Int).toNat) (l.length + 1) = 1 by rw [show (1 : Int).toNat = 1 from rfl]; omega]
  show (l.map V.int).take (l.length + 1 - 1) = _
  rw [List.take_of_length_le (by rw [List.length_map]; omega)]
theorem last_at {α : Type} {xs : List α} {x : α} (h : xs.getLast? = some x) : atI xs (-1) = some x := by
  have hl : 0 < xs.length := by
    cases xs with
    | nil => cases h
    | cons _ _ => exact Nat.succ_pos _
  unfold atI ixN
  rw [if_neg (by decide), if_pos (by omega)]
  rw [List.getLast?_eq_getElem?] at h
  rw [← h]
  show xs[((-1 : Int) + (xs.length : Int)).toNat]? = _
  congr 1
  omega
theorem Fx.knd {x : V} (h : Fx x) (H : Hp) : ∃ k, KndOf H x k := by
  rcases h with ⟨n, rfl⟩ | ⟨b, rfl⟩ | rfl
  · exact ⟨.int, n, rfl⟩
  · exact ⟨.bool, b, rfl⟩
  · exact ⟨.none, rfl⟩
def CvAt (H : Hp) (v : V) : Option (List V) → Prop
  | some xs => ∃ t, v = .ref t ∧ H t = some (.tup xs) ∧ (∀ x ∈ xs, Fx x) ∧ xs.length ≤ 1000
  | none => ∃ k, KndOf H v k ∧ k.isTup = false
theorem CvAt.ext {H H' : Hp} {v : V} {xo : Option (List V)} (h : CvAt H v xo) (e : Ext H H') : CvAt H' v xo := by
  cases xo with
  | some xs =>
    obtain ⟨t, h1, h2, h3⟩ := h
    exact ⟨t, h1, e _ _ h2, h3⟩
  | none =>
    obtain ⟨k, h1, h2⟩ := h
    refine ⟨k, ?_, h2⟩
    cases k with
    | list => obtain ⟨a, xs, r, q⟩ := h1; exact ⟨a, xs, r, e _ _ q⟩
    | tuple => obtain ⟨a, xs, r, q⟩ := h1; exact ⟨a, xs, r, e _ _ q⟩
    | _ => exact h1
section
variable {P : Program} {w : World} {K : PySem.W.Frag} {mg : Str → Option Value} {base : Heap} {A : Ad}
def spIndex : Sp := fun vs H Q _ => ∃ v k n, vs = [v, .int n] ∧ KndOf H v k ∧ Q (.bl (betw v 0 (n - 1))) H
theorem ok_index {f : Addr} {fd : FuncData} (F : Fun K "is_index" "is_index" s_is_index f fd) (O_is_between : Own P w K mg base CX0 "is_between" 2 pm_is_between spBetween) : FnOk P w K mg base CX0 3 f fd pm_is_index spIndex := by
  refine F.ok sc_is_index (fun vs H Q E h => ?_) (fun cdv A' outer s H vs Q E hr h => ?_)
  · obtain ⟨_, _, _, rfl, _⟩ := h
    rfl
  · obtain ⟨v, k, n, rfl, hk, q⟩ := h
    refine ⟨_, pss_one (ps_ret (pe_own O_is_between (hr.mono (by decide)) pass0 (pa_cons (pv 0) (pa_cons (pe_int) (pa_cons (pe_op op_sub (pv 1) (pe_int)) pa_nil))))), ?_⟩
    exact ⟨_, rfl, _, rfl, _, _, rfl, rfl, v, k, 0, n - 1, rfl, hk, q⟩
def spCheckCount (A : Ad) : Sp := fun vs H Q _ => ∃ (p : Addr) (d t l z n : Int), vs = [.ref p, .int n] ∧ LullAt A H p d t l z ∧ 0 ≤ n ∧ n ≤ z - 1 ∧ Q .non H
theorem ok_checkCount {f : Addr} {fd : FuncData} (F : Fun K "check_count" "check_count" s_check_count f fd) (T : Txt K mg A) (O_is_between : Own P w K mg base CX0 "is_between" 2 pm_is_between spBetween) : FnOk P w K mg base CX0 3 f fd pm_check_count (spCheckCount A) := by
  refine F.ok sc_check_count (fun vs H Q E h => ?_) (fun cdv A' outer s H vs Q E hr h => ?_)
  · obtain ⟨_, _, _, _, _, _, rfl, _⟩ := h
    rfl
  · obtain ⟨p, d, t, l, z, n, rfl, ⟨dx, hp⟩, h0, h1, q⟩ := h
    refine ⟨_, pss_one (ps_if (pt_not (pt_val (pe_own O_is_between (hr.mono (by decide)) pass0 (pa_cons (pv 1) (pa_cons (pe_int) (pa_cons (pe_op op_sub (pe_fld (pv 0) rfl) (pe_int)) pa_nil)))))) (pss_dead) (pss_nil)), ?_⟩
    refine ⟨_, rfl, _, rfl, p, A.Lull, dx, _, _, rfl, hp, T.Lull.cl, T.c_quiet, rfl, _, _, rfl, rfl, .int n, .int, 0, z - 1, rfl, ⟨n, rfl⟩, _, rfl, ?_⟩
    rw [betw_int, decide_eq_true h0, decide_eq_true h1]
    exact iteF q
def spStep (A : Ad) : Sp := fun vs H Q _ => ∃ (pa : Addr) (d t : Int) (L : Nat) (z : Int) (m : Nat) (p q : Int), vs = [.ref pa, .int (m : Int), .int p, .int q] ∧ LullAt A H pa d t (L : Int) z ∧ Q (.bl (stepOk L m p q)) H
theorem ok_step {f : Addr} {fd : FuncData} (F : Fun K "is_step" "is_step" s_is_step f fd) (T : Txt K mg A) : FnOk P w K mg base CX0 1 f fd pm_is_step (spStep A) := by
  refine F.ok sc_is_step (fun vs H Q E h => ?_) (fun cdv A' outer s H vs Q E hr h => ?_)
  · obtain ⟨_, _, _, _, _, _, _, _, rfl, _⟩ := h
    rfl
  · obtain ⟨pa, d, t, L, z, m, p, q, rfl, ⟨dx, hp⟩, k⟩ := h
    refine ⟨_, pss_cons (ps_if (pt_cmpR op_gt (pv 3) (pv 2) (nomark _)) (pss_one (ps_ret (pe_and (pe_cmpR op_eq (pv 3) (pe_op op_add (pv 2) (pe_int)) (nomark _)) (pe_one (pe_chain op_le op_le (pe_int) (pv 2) (pv 1)))))) (pss_nil))
      (pss_one (ps_ret (pe_cmpR op_eq (pv 3) (pe_op op_sub (pe_op op_sub (pv 2) (pe_fld (pv 0) rfl)) (pe_int)) (nomark _)))), ?_⟩
    refine ⟨_, rfl, _, rfl, _, _, rfl, rfl, _, rfl, ?_⟩
    by_cases hg : q > p
    · rw [decide_eq_true hg]
      unfold stepOk at k
      rw [if_pos hg] at k
      refine iteT ⟨_, rfl, _, rfl, _, _, rfl, rfl, rfl, _, rfl, ?_⟩
      rw [show decide (V.int q = (fun i j => V.int (i + j)) p 1) = decide (q = p + 1) by simp]
      cases h1 : decide (q = p + 1) with
      | false =>
        rw [h1] at k
        exact iteF k
      | true =>
        rw [h1, Bool.true_and] at k
        refine iteT ⟨_, rfl, _, _, rfl, rfl, _, rfl, ?_⟩
        cases h2 : decide (1 ≤ p) with
        | false =>
          rw [h2] at k
          exact iteF k
        | true =>
          rw [h2, Bool.true_and] at k
          exact iteT ⟨_, rfl, _, _, rfl, rfl, k⟩
    · rw [decide_eq_false hg]
      unfold stepOk at k
      rw [if_neg hg] at k
      refine iteF ⟨_, rfl, _, rfl, _, rfl, pa, A.Lull, dx, _, _, rfl, hp, T.Lull.cl, T.c_losses, rfl, _, _, rfl, rfl, _, _, rfl, rfl, rfl, ?_⟩
      rw [show decide (V.int q = (fun i j => V.int (i - j)) (p - ↑L) 1) = decide (q = p - L - 1) by simp]
      exact k
def spKnown (A : Ad) : Sp := fun vs H Q _ => ∃ (pa : Addr) (d t l z : Int) (m : Nat) (p : Int), vs = [.ref pa, .int (m : Int), .int p] ∧ LullAt A H pa d t l z ∧ Sizes d t l z ∧ Q (.int (kn d t z m p)) H
theorem ok_known {f : Addr} {fd : FuncData} (F : Fun K "known_stop" "known_stop" s_known_stop f fd) (T : Txt K mg A) : FnOk P w K mg base CX0 1 f fd pm_known_stop (spKnown A) := by
  refine F.ok sc_known_stop (fun vs H Q E h => ?_) (fun cdv A' outer s H vs Q E hr h => ?_)
  · obtain ⟨_, _, _, _, _, _, _, rfl, _⟩ := h
    rfl
  · obtain ⟨pa, d, t, l, z, m, p, rfl, ⟨dx, hp⟩, sz, k⟩ := h
    refine ⟨_, pss_cons (ps_if (pt_cmpR op_gt (pv 2) (pv 1) (nomark _)) (pss_one (ps_ret (pe_op op_add (pe_fld (pv 0) rfl) (pe_op op_mul (pe_op op_sub (pe_op op_sub (pv 2) (pv 1)) (pe_int)) (pe_fld (pv 0) rfl))))) (pss_nil))
      (pss_one (ps_ret (pe_ifExp (pt_cmpR op_eq (pv 2) (pe_int) (nomark _)) (pe_int) (pe_op op_mul (pe_un un_neg (pe_int)) (pe_fld (pv 0) rfl))))), ?_⟩
    refine ⟨_, rfl, _, rfl, _, _, rfl, rfl, _, rfl, ?_⟩
    have t2 := sz.t2
    have d2 := sz.d2
    have d1 := sz.d1
    have t1 := sz.t1
    unfold kn at k
    by_cases hg : p > (m : Int)
    · rw [decide_eq_true hg]
      rw [if_pos hg] at k
      exact iteT ⟨_, rfl, pa, A.Lull, dx, _, _, rfl, hp, T.Lull.cl, T.c_quiet, rfl, _, rfl, _, rfl, _, _, rfl, rfl, _, _, rfl, rfl, _, rfl, pa, A.Lull, dx, _, _, rfl, hp, T.Lull.cl, T.c_turn, rfl, _, _, rfl, rfl, .inr ⟨by omega, by omega⟩, _, _, rfl, rfl, k⟩
    · rw [decide_eq_false hg]
      rw [if_neg hg] at k
      refine iteF ⟨_, rfl, rfl, _, rfl, ?_⟩
      rw [show decide (V.int p = V.int 1) = decide (p = 1) by simp]
      by_cases h1 : p = 1
      · rw [decide_eq_true h1]
        rw [if_pos h1] at k
        exact iteT k
      · rw [decide_eq_false h1]
        rw [if_neg h1] at k
        exact iteF ⟨_, rfl, _, rfl, pa, A.Lull, dx, _, _, rfl, hp, T.Lull.cl, T.c_delay, rfl, _, _, rfl, rfl, .inr ⟨by omega, by omega⟩, k⟩
def spChain (A : Ad) : Sp := fun vs H Q _ => ∃ (pa : Addr) (d t : Int) (L : Nat) (z : Int) (m : Nat) (v : V) (xo : Option (List V)), vs = [.ref pa, .int (m : Int), v] ∧ LullAt A H pa d t (L : Int) z ∧ CvAt H v xo ∧ ∀ H', Ext H H' → Q (.bl (chainV L m xo)) H'
theorem ok_chain {f : Addr} {fd : FuncData} (F : Fun K "is_chain" "is_chain" s_is_chain f fd) (T : Txt K mg A) (O_is_index : Own P w K mg base CX0 "is_index" 3 pm_is_index spIndex) (O_is_step : Own P w K mg base CX0 "is_step" 1 pm_is_step (spStep A)) : FnOk P w K mg base CX0 4 f fd pm_is_chain (spChain A) := by
  refine F.ok sc_is_chain (fun vs H Q E h => ?_) (fun cdv A' outer s H vs Q E hr h => ?_)
  · obtain ⟨_, _, _, _, _, _, _, _, rfl, _⟩ := h
    rfl
  · obtain ⟨pa, d, t, L, z, m, v, xo, rfl, hL, hv, k⟩ := h
    refine ⟨_, pss_cons (ps_if (PW.pt (pw_or (pt_not (pt_val (pe_callB call_isi (by rfl) T.n_isinstance (by decide +kernel) (pa_cons (pv 2) (pa_cons (pe_bltn (v := .ty "tuple") (by rfl) T.n_tuple (by decide +kernel) rfl) pa_nil))))) (pw_or1 (pt_cmpR op_eq (pe_callB call_len_seq (by rfl) T.n_len (by decide +kernel) (pa_cons (pv 2) pa_nil)) (pe_int) (nomark _))))) (pss_one (ps_ret (pe_bl))) (pss_nil))
      (pss_cons (ps_if (pt_not (pt_val (pe_callB (cr_all rfl) (by rfl) T.n_all (by decide +kernel) (pa_cons (pe_lc (own := [("place", 3)]) (g := gName 3) (by rfl) sc_is_chain.nd (pi_tup (pv 2)) (blkOk_by (own := [("place", 3)]) (N := nm_is_chain) (sc := defScope s_is_chain) (by decide +kernel)) (fun _ _ _ _ _ => pg_name (i := 3) sc_is_chain.nd rfl (Or.inl rfl)) (fun s1 H1 C1 cl fp => pts_nil) (fun s1 H1 C1 cl fp => pe_own O_is_index (hr.mono (by decide)) pass0 (pa_cons (pv 3) (pa_cons (pe_op op_add (pe_op op_add (pv 1) (pe_fldK (K := K) rfl (pv 0) rfl)) (pe_int)) pa_nil)))) pa_nil)))) (pss_one (ps_ret (pe_bl))) (pss_nil))
      (pss_cons (ps_if (PW.pt (pw_or (pt_chain op_lt op_le (pe_int) (pe_ix ix_tup (pv 2) (pe_int) (fun _ _ => rfl)) (pv 1)) (pw_or1 (pt_chain op_le op_le (pe_int) (pe_ix ix_tup (pv 2) (pe_un un_neg (pe_int)) (fun _ _ => rfl)) (pv 1))))) (pss_one (ps_ret (pe_bl))) (pss_nil))
      (pss_one (ps_ret (pe_callB (cr_all rfl) (by rfl) T.n_all (by decide +kernel) (pa_cons (pe_lc (own := [("place", 3), ("further", 4)]) (g := gTup K 2 (gCons (gName 3) (gCons (gName 4) (gNil)))) (by rfl) sc_is_chain.nd (RZ.pi_zipA (by rfl) T.n_zip (pa_cons (pv 2) (pa_cons (pe_slice sl_tupE (pv 2) (po_some (pe_int)) po_none) pa_nil))) (blkOk_by (own := [("place", 3), ("further", 4)]) (N := nm_is_chain) (sc := defScope s_is_chain) (by decide +kernel)) (fun _ _ _ _ _ => pg_tup rfl (pgs_cons (pg_name (i := 3) sc_is_chain.nd rfl (Or.inl rfl)) (pgs_cons (pg_name (i := 4) sc_is_chain.nd rfl (Or.inl rfl)) (pgs_nil)))) (fun s1 H1 C1 cl fp => pts_nil) (fun s1 H1 C1 cl fp => pe_own O_is_step (hr.mono (by decide)) pass0 (pa_cons (pv 0) (pa_cons (pv 1) (pa_cons (pv 3) (pa_cons (pv 4) pa_nil)))))) pa_nil)))))), ?_⟩
    cases xo with
    | none =>
      obtain ⟨kd, hk, ht⟩ := hv
      refine ⟨v, rfl, v, .ty "tuple", .type kd.name, .type "tuple", kd.isTup, rfl, .ty _, knd_ty hk, knd_tup, _, rfl, ?_⟩
      rw [ht]
      exact iteT (iteT (k _ Ext.rfl'))
    | some xs =>
      obtain ⟨tr, rfl, htr, hfx, hsm⟩ := hv
      have hk : KndOf H (.ref tr) .tuple := ⟨tr, xs, rfl, htr⟩
      refine ⟨_, rfl, _, .ty "tuple", .type Knd.tuple.name, .type "tuple", Knd.tuple.isTup, rfl, .ty _, knd_ty hk, knd_tup, _, rfl, iteF ⟨_, rfl, tr, xs, rfl, .inr (SqT.of htr), rfl, _, rfl, ?_⟩⟩
      rw [show decide (V.int (xs.length : Int) = V.int 0) = decide (xs = []) by
        cases xs with
        | nil => rfl
        | cons x l =>
          rw [decide_eq_false (fun e => by injection e with e; rw [List.length_cons] at e; omega), decide_eq_false (fun z => nomatch z)]]
      by_cases hn : xs = []
      · subst hn
        exact iteT (k _ Ext.rfl')
      · rw [decide_eq_false hn]
        obtain ⟨dx, hp⟩ := id hL
        refine iteF ⟨_, rfl, tr, rfl, ⟨_, SqT.of htr⟩, fun C hC => ?_⟩
        refine lc_it (walk_tup (xs := xs)) (fun i H' => Ext H H' ∧ H' C = some (.lst (((xs.take i).map fun x => betw x 0 ((m : Int) + L + 1)).map V.bl))) ⟨Ext.upd hC, upd_same⟩ (fun i H' _ pv => SqT.of (pv.1 _ _ htr)) (fun i x H' H2 hi pv hy => ?_) (fun H2 pv => ?_)
        · obtain ⟨e2, hC2⟩ := pv
          obtain ⟨rfl, hx⟩ := hy
          obtain ⟨kx, hkx⟩ := (hfx x (List.mem_of_getElem? hx)).knd H2
          refine ⟨rfl, _, rfl, _, rfl, _, rfl, pa, A.Lull, dx, _, _, rfl, e2 _ _ hp, T.Lull.cl, T.c_losses, rfl, _, _, rfl, rfl, _, _, rfl, rfl, x, kx, _, rfl, hkx, _, hC2, Nat.lt_of_le_of_lt (show _ ≤ 1000 by rw [List.length_map, List.length_map, List.length_take]; omega) (by decide), ext_mut e2 hC, ?_⟩
          rw [upd_same, take_snoc hx, List.map_append, List.map_append, show (m : Int) + (L : Int) + 2 - 1 = (m : Int) + L + 1 by omega]
          rfl
        · obtain ⟨e2, hC2⟩ := pv
          rw [List.take_length] at hC2
          refine ⟨C, _, rfl, SqL.of hC2, _, rfl, ?_⟩
          have hall : ((xs.map fun x => betw x 0 ((m : Int) + L + 1)).all id) = xs.all fun x => betw x 0 ((m : Int) + L + 1) := by
            rw [List.all_map]
            rfl
          rw [hall]
          cases hb : xs.all fun x => betw x 0 ((m : Int) + L + 1) with
          | false =>
            have h := k _ e2
            rw [chain_no hb] at h
            exact iteT h
          | true =>
            obtain ⟨ns, rfl, hns⟩ := all_betw hb
            rw [chainV_some, toNs_int] at k
            have htr2 := e2 _ _ htr
            cases ns with
            | nil => exact absurd rfl hn
            | cons p l =>
              have hlast : ((p :: l).map V.int).getLast? = some (.int (lastI p l)) := by
                rw [List.getLast?_map, List.getLast?_eq_some_getLast (List.cons_ne_nil p l)]
                rfl
              refine iteF ⟨_, rfl, tr, _, ((0 : Nat) : Int), .int p, rfl, rfl, SqT.of htr2, atI_nat rfl, _, _, rfl, rfl, _, rfl, ?_⟩
              have no : chainB L m (p :: l) = false → Q (.bl false) H2 := fun h => by
                have q : Q (.bl (chainB L m (p :: l))) H2 := k _ e2
                rw [h] at q
                exact q
              have hcb : chainB L m (p :: l) = (!(decide (1 < p) && decide (p ≤ (m : Int))) && (!(decide (1 ≤ lastI p l) && decide (lastI p l ≤ (m : Int))) && ok2 L m (p :: l))) := by
                show (((p :: l).all (inR L m)) && _) = _
                rw [hns, Bool.true_and]
              by_cases h1 : 1 < p
              case' pos =>
                rw [decide_eq_true h1]
                refine iteT ⟨_, rfl, _, _, rfl, rfl, _, rfl, ?_⟩
                by_cases h2 : p ≤ (m : Int)
                case' pos =>
                  rw [decide_eq_true h2]
                  refine iteT (iteT (no ?_))
                  rw [hcb, decide_eq_true h1, decide_eq_true h2]
                  rfl
                case' neg =>
                  rw [decide_eq_false h2]
                  refine iteF ?_
                  have hA : (!(decide (1 < p) && decide (p ≤ (m : Int)))) = true := by rw [decide_eq_false h2, Bool.and_false]; rfl
              case' neg =>
                rw [decide_eq_false h1]
                refine iteF ⟨_, rfl, iteF ?_⟩
                have hA : (!(decide (1 < p) && decide (p ≤ (m : Int)))) = true := by rw [decide_eq_false h1, Bool.false_and]; rfl
              all_goals (
                rw [hA, Bool.true_and] at hcb
                refine ⟨_, rfl, _, rfl, tr, _, -1, .int (lastI p l), rfl, rfl, SqT.of htr2, last_at hlast, _, _, rfl, rfl, _, rfl, ?_⟩
                by_cases g1 : 1 ≤ lastI p l
                case' pos =>
                  rw [decide_eq_true g1]
                  refine iteT ⟨_, rfl, _, _, rfl, rfl, _, rfl, ?_⟩
                  by_cases g2 : lastI p l ≤ (m : Int)
                  case' pos =>
                    rw [decide_eq_true g2]
                    refine iteT (no ?_)
                    rw [hcb, decide_eq_true g1, decide_eq_true g2]
                    rfl
                  case' neg =>
                    rw [decide_eq_false g2]
                    refine iteF ?_
                    have hB : (!(decide (1 ≤ lastI p l) && decide (lastI p l ≤ (m : Int)))) = true := by rw [decide_eq_false g2, Bool.and_false]; rfl
                case' neg =>
                  rw [decide_eq_false g1]
                  refine iteF ⟨_, rfl, iteF ?_⟩
                  have hB : (!(decide (1 ≤ lastI p l) && decide (lastI p l ≤ (m : Int)))) = true := by rw [decide_eq_false g1, Bool.false_and]; rfl
                all_goals (
                  rw [hB, Bool.true_and, ok2_prs] at hcb
                  refine ⟨_, rfl, _, rfl, 1, rfl, tr, _, rfl, htr2, fun p' H8 e8 hp8 => ?_⟩
                  rw [cut_tail] at hp8
                  refine ⟨tr, p', _, _, rfl, .inr ⟨SqT.of (e8 _ _ htr2), SqT.of hp8, fun G hG => ?_⟩⟩
                  have hn : (prs (p :: l)).length = min ((p :: l).map V.int).length (l.map V.int).length := by
                    unfold prs
                    rw [List.length_map, List.length_map, List.length_zip]
                    rfl
                  refine lc_it (walk_zipT (K := K) (a := tr) (b := p') (xs := (p :: l).map V.int) (ys := l.map V.int) hn) (fun i H' => Ext H8 H' ∧ H' G = some (.lst ((((prs (p :: l)).take i).map fun x => stepOk L m x.1 x.2).map V.bl))) ⟨Ext.upd hG, upd_same⟩ (fun i H' _ pv => ⟨SqT.of (pv.1 _ _ (e8 _ _ htr2)), SqT.of (pv.1 _ _ hp8)⟩) (fun i v H' H'' hi pv y => ?_) (fun H' pv => ?_)
                  · obtain ⟨e9, hG9⟩ := pv
                    obtain ⟨Tt, x, y, rfl, hTt, rfl, q1, q2⟩ := y
                    dsimp only at q1 q2
                    rw [List.getElem?_map] at q1 q2
                    obtain ⟨a, ha, rfl⟩ := Option.map_eq_some_iff.mp q1
                    obtain ⟨b, hb, rfl⟩ := Option.map_eq_some_iff.mp q2
                    have eT := Ext.upd (o := .tup [V.int a, .int b]) hTt
                    have hab : (prs (p :: l))[i]? = some (a, b) := by
                      unfold prs
                      rw [List.getElem?_zip_eq_some]
                      exact ⟨ha, hb⟩
                    refine ⟨Tt, _, rfl, SqT.of upd_same, rfl, _, _, rfl, _, _, rfl, rfl, rfl, _, rfl, _, rfl, _, rfl, _, rfl, pa, d, t, L, z, m, a, b, rfl, hL.ext (((e2.trans e8).trans e9).trans eT), _, eT _ _ hG9, Nat.lt_of_le_of_lt (show _ ≤ 1001 by rw [List.length_map, List.length_map, List.length_take, hn, List.length_map, List.length_map]; rw [List.length_map, List.length_cons] at hsm; omega) (by decide), ext_mut (e9.trans eT) hG, ?_⟩
                    rw [upd_same, take_snoc hab, List.map_append, List.map_append]
                    rfl
                  · obtain ⟨e9, hG9⟩ := pv
                    rw [List.take_length] at hG9
                    refine ⟨G, _, rfl, SqL.of hG9, ?_⟩
                    rw [show (((prs (p :: l)).map fun x => stepOk L m x.1 x.2).all id) = chainB L m (p :: l) by rw [hcb, List.all_map]; rfl]
                    exact k _ ((e2.trans e8).trans e9)))
end
end K33

set_option Elab.async false
set_option maxRecDepth 100000
set_option maxHeartbeats 4000000
namespace K33
open PySem PySem.Spec PyProof.Rows L2
theorem chain_yes {L m : Nat} {xo : Option (List V)} (h : chainV L m xo = true) : ∃ p l, xo = some ((p :: l : List Int).map V.int) ∧ chainB L m (p :: l) = true := by
  cases xo with
  | none => cases h
  | some xs =>
    rw [chainV_some] at h
    cases hn : toNs xs with
    | none => rw [hn] at h; cases h
    | some ns =>
      rw [hn] at h
      have h' : chainB L m ns = true := h
      rw [toNs_some hn]
      cases ns with
      | nil => cases h'
      | cons p l => exact ⟨p, l, rfl, h'⟩
section
variable {P : Program} {w : World} {K : PySem.W.Frag} {mg : Str → Option Value} {base : Heap} {A : Ad}
def spBars (A : Ad) : Sp := fun vs H Q _ => ∃ (pa : Addr) (lim d t : Int) (L : Nat) (z : Int) (m : Nat) (v : V) (xo : Option (List V)), vs = [.ref pa, .int lim, .int (m : Int), v] ∧ LullAt A H pa d t (L : Int) z ∧ Sizes d t L z ∧ 0 ≤ lim ∧ lim ≤ 20000 ∧ CvAt H v xo ∧ ∀ H', Ext H H' → Q (.bl (barsV d t L z lim m xo)) H'
theorem ok_bars {f : Addr} {fd : FuncData} (F : Fun K "bars" "bars" s_bars f fd) (T : Txt K mg A) (O_is_chain : Own P w K mg base CX0 "is_chain" 4 pm_is_chain (spChain A)) (O_known_stop : Own P w K mg base CX0 "known_stop" 1 pm_known_stop (spKnown A)) : FnOk P w K mg base CX0 5 f fd pm_bars (spBars A) := by
  refine F.ok sc_bars (fun vs H Q E h => ?_) (fun cdv A' outer s H vs Q E hr h => ?_)
  · obtain ⟨_, _, _, _, _, _, _, _, _, rfl, _⟩ := h
    rfl
  · obtain ⟨pa, lim, d, t, L, z, m, v, xo, rfl, hL, sz, l0, l1, hv, k⟩ := h
    refine ⟨_, pss_cons (ps_if (pt_not (pt_val (pe_own O_is_chain (hr.mono (by decide)) pass0 (pa_cons (pv 0) (pa_cons (pv 2) (pa_cons (pv 3) pa_nil)))))) (pss_one (ps_ret (pe_bl))) (pss_nil))
      (pss_cons (ps_set (i := 4) sc_bars.nd rfl (Or.inl rfl) (pe_callB call_len_seq (by rfl) T.n_len (by decide +kernel) (pa_cons (pe_lc (own := [("place", 7), ("further", 8)]) (g := gTup K 2 (gCons (gName 7) (gCons (gName 8) (gNil)))) (by rfl) sc_bars.nd (RZ.pi_zipA (by rfl) T.n_zip (pa_cons (pv 3) (pa_cons (pe_slice sl_tupE (pv 3) (po_some (pe_int)) po_none) pa_nil))) (blkOk_by (own := [("place", 7), ("further", 8)]) (N := nm_bars) (sc := defScope s_bars) (by decide +kernel)) (fun _ _ _ _ _ => pg_tup rfl (pgs_cons (pg_name (i := 7) sc_bars.nd rfl (Or.inl rfl)) (pgs_cons (pg_name (i := 8) sc_bars.nd rfl (Or.inl rfl)) (pgs_nil)))) (fun s1 H1 C1 cl fp => pts_one (pt_cmpR op_gt (pv 8) (pv 7) (nomark _))) (fun s1 H1 C1 cl fp => pv 7)) pa_nil)))
      (pss_cons (ps_set (i := 5) sc_bars.nd rfl (Or.inl rfl) (pe_op op_sub (pe_op op_sub (pe_callB call_len_seq (by rfl) T.n_len (by decide +kernel) (pa_cons (pv 3) pa_nil)) (pe_int)) (pv 4)))
      (pss_cons (ps_set (i := 6) sc_bars.nd rfl (Or.inl rfl) (pe_op op_sub (pe_op op_add (pe_own O_known_stop (hr.mono (by decide)) pass0 (pa_cons (pv 0) (pa_cons (pv 2) (pa_cons (pe_ix ix_tup (pv 3) (pe_un un_neg (pe_int)) (fun _ _ => rfl)) pa_nil)))) (pe_op op_mul (pv 5) (pv 1))) (pv 4)))
      (pss_one (ps_ret (pe_cmpR op_gt (pe_own O_known_stop (hr.mono (by decide)) pass0 (pa_cons (pv 0) (pa_cons (pv 2) (pa_cons (pe_ix ix_tup (pv 3) (pe_int) (fun _ _ => rfl)) pa_nil)))) (pv 6) (nomark _))))))), ?_⟩
    refine ⟨_, rfl, _, rfl, _, rfl, pa, d, t, L, z, m, v, xo, rfl, hL, hv, fun H1 e1 => ⟨_, rfl, ?_⟩⟩
    cases hc : chainV L m xo with
    | false =>
      have q := k _ e1
      rw [bars_of_chain hc] at q
      exact iteT q
    | true =>
      obtain ⟨p, l, rfl, hcb⟩ := chain_yes hc
      obtain ⟨tr, rfl, htr, _, hsm⟩ := hv
      have hbv : barsV d t L z lim m (some ((p :: l).map V.int)) = decide (kn d t z m p > kn d t z m (lastI p l) + (((l.length : Int) - onN (p :: l)) * lim - onN (p :: l))) := by
        rw [barsV_some, toNs_int]
        show barsB d t L z lim m (p :: l) = _
        rw [barsB_chain, hcb, Bool.true_and, cost_prs]
      rw [hbv] at k
      have htr1 := e1 _ _ htr
      have hlast : ((p :: l).map V.int).getLast? = some (.int (lastI p l)) := by
        rw [List.getLast?_map, List.getLast?_eq_some_getLast (List.cons_ne_nil p l)]
        rfl
      refine iteF ⟨_, rfl, _, rfl, 1, rfl, tr, _, rfl, htr1, fun p' H8 e8 hp8 => ?_⟩
      rw [cut_tail] at hp8
      refine ⟨tr, p', _, _, rfl, .inr ⟨SqT.of (e8 _ _ htr1), SqT.of hp8, fun G hG => ?_⟩⟩
      have hn : (prs (p :: l)).length = min ((p :: l).map V.int).length (l.map V.int).length := by
        unfold prs
        rw [List.length_map, List.length_map, List.length_zip]
        rfl
      rw [List.length_map, List.length_cons] at hsm
      refine lc_it (walk_zipT (K := K) (a := tr) (b := p') (xs := (p :: l).map V.int) (ys := l.map V.int) hn) (fun i H' => Ext H8 H' ∧ H' G = some (.lst ((((prs (p :: l)).take i).filter fun x => decide (x.2 > x.1)).map fun x => V.int x.1))) ⟨Ext.upd hG, upd_same⟩ (fun i H' _ pv => ⟨SqT.of (pv.1 _ _ (e8 _ _ htr1)), SqT.of (pv.1 _ _ hp8)⟩) (fun i v H' H'' hi pv y => ?_) (fun H' pv => ?_)
      · obtain ⟨e9, hG9⟩ := pv
        obtain ⟨Tt, x, y, rfl, hTt, rfl, q1, q2⟩ := y
        dsimp only at q1 q2
        rw [List.getElem?_map] at q1 q2
        obtain ⟨a, ha, rfl⟩ := Option.map_eq_some_iff.mp q1
        obtain ⟨b, hb, rfl⟩ := Option.map_eq_some_iff.mp q2
        have eT := Ext.upd (o := .tup [V.int a, .int b]) hTt
        have hab : (prs (p :: l))[i]? = some (a, b) := by
          unfold prs
          rw [List.getElem?_zip_eq_some]
          exact ⟨ha, hb⟩
        refine ⟨Tt, _, rfl, SqT.of upd_same, rfl, _, _, rfl, _, _, rfl, rfl, rfl, _, rfl, _, rfl, _, _, rfl, rfl, _, rfl, ?_⟩
        rw [take_snoc hab, List.filter_append, List.map_append, List.filter_cons]
        cases hg : decide (b > a) with
        | true =>
          refine iteT ⟨_, rfl, _, eT _ _ hG9, Nat.lt_of_le_of_lt (show _ ≤ 1001 by rw [List.length_map]; refine Nat.le_trans (List.length_filter_le _ _) ?_; rw [List.length_take, hn, List.length_map, List.length_map]; omega) (by decide), ext_mut (e9.trans eT) hG, ?_⟩
          rw [upd_same, if_pos rfl]
          rfl
        | false =>
          refine iteF ⟨e9.trans eT, ?_⟩
          rw [if_neg (by decide), List.filter_nil, List.map_nil, List.append_nil]
          exact eT _ _ hG9
      · obtain ⟨e9, hG9⟩ := pv
        rw [List.take_length] at hG9
        have e19 := (e1.trans e8).trans e9
        have htr9 := e19 _ _ htr
        refine ⟨G, _, rfl, .inl (SqL.of hG9), _, rfl, tr, _, rfl, .inr (SqT.of htr9), _, _, rfl, rfl, _, rfl, _, _, rfl, rfl, ?_⟩
        rw [List.length_map, List.length_map, List.length_cons]
        have hon : ((prs (p :: l)).filter fun x => decide (x.2 > x.1)).length = onN (p :: l) := rfl
        rw [hon]
        refine ⟨_, rfl, _, rfl, _, rfl, _, rfl, tr, _, -1, .int (lastI p l), rfl, rfl, SqT.of htr9, last_at hlast, pa, d, t, L, z, m, lastI p l, rfl, hL.ext e19, sz, ?_⟩
        refine ⟨_, rfl, _, rfl, _, _, rfl, rfl, .inr ⟨by omega, by omega⟩, _, _, rfl, rfl, _, rfl, _, _, rfl, rfl, ?_⟩
        refine ⟨_, rfl, _, rfl, _, rfl, tr, _, ((0 : Nat) : Int), .int p, rfl, rfl, SqT.of htr9, atI_nat rfl, pa, d, t, L, z, m, p, rfl, hL.ext e19, sz, _, rfl, _, _, rfl, rfl, ?_⟩
        have q := k _ e19
        rw [show (l.length : Int) - (onN (p :: l) : Int) = ((l.length + 1 : Nat) : Int) - 1 - (onN (p :: l) : Int) by omega] at q
        rw [show kn d t z m (lastI p l) + ((((l.length + 1 : Nat) : Int) - 1 - (onN (p :: l) : Int)) * lim - (onN (p :: l) : Int)) = kn d t z m (lastI p l) + (((l.length + 1 : Nat) : Int) - 1 - (onN (p :: l) : Int)) * lim - (onN (p :: l) : Int) by omega] at q
        exact q
def spBarsS (A : Ad) : Sp := fun vs H Q E => ∃ (pa : Addr) (lim d t : Int) (L : Nat) (z : Int) (m : Nat) (v : V) (xo : Option (List V)), vs = [.ref pa, .int lim, .int (m : Int), v] ∧ LullAt A H pa d t (L : Int) z ∧ Sizes d t L z ∧ 0 ≤ lim ∧ lim ≤ 20000 ∧ (m : Int) ≤ z - 1 ∧ CvAt H v xo ∧
  (1 ≤ lim → ∀ H', Ext H H' → Q (.bl (barsV d t L z lim m xo)) H') ∧ (lim = 0 → ∀ e, H e = none → E (.ref A.BadNumber) (some e) (upd H e (.xd [("number", .int 0)])))
theorem lim_ok {lim : Int} (h0 : 0 ≤ lim) (h1 : lim ≤ 20000) : betw (.int lim) 1 20000 = decide (1 ≤ lim) := by
  rw [betw_int, decide_eq_true h1, Bool.and_true]
theorem ok_barsS {f : Addr} {fd : FuncData} (F : Fun K "bars_signs" "bars_signs" s_bars_signs f fd) (T : Txt K mg A) (O_check_limit : Own P w K mg base (L2.CX P w) "check_limit" 4 pm_check_limit (spLimit A)) (O_check_count : Own P w K mg base CX0 "check_count" 3 pm_check_count (spCheckCount A)) (O_bars : Own P w K mg base CX0 "bars" 5 pm_bars (spBars A)) : FnOk P w K mg base (L2.CX P w) 6 f fd pm_bars_signs (spBarsS A) := by
  refine F.okX sc_bars_signs (fun vs H Q E h => ?_) (fun cdv A' outer s H vs Q E hr h => ?_)
  · obtain ⟨_, _, _, _, _, _, _, _, _, rfl, _⟩ := h
    rfl
  · obtain ⟨pa, lim, d, t, L, z, m, v, xo, rfl, hL, sz, l0, l1, hm, hv, k, kE⟩ := h
    refine ⟨_, pss_cons (ps_expr (pe_ownS O_check_limit (hr.mono (by decide)) (takes_of rfl rfl rfl rfl) (pa_cons (pv 1) pa_nil)))
      (pss_cons (ps_expr (pe_own O_check_count (hr.mono (by decide)) pass0 (pa_cons (pv 0) (pa_cons (pv 2) pa_nil))))
      (pss_one (ps_ret (pe_own O_bars (hr.mono (by decide)) pass0 (pa_cons (pv 0) (pa_cons (pv 1) (pa_cons (pv 2) (pa_cons (pv 3) pa_nil)))))))), ?_⟩
    refine ⟨_, rfl, .int lim, .int, rfl, ⟨lim, rfl⟩, fun hb => ?_, fun hb e he => ?_⟩
    · rw [lim_ok l0 l1, decide_eq_true_eq] at hb
      exact ⟨_, rfl, _, rfl, pa, d, t, L, z, m, rfl, hL, by omega, hm, _, rfl, _, rfl, _, rfl, _, rfl, pa, lim, d, t, L, z, m, v, xo, rfl, hL, sz, l0, l1, hv, k hb⟩
    · rw [lim_ok l0 l1, decide_eq_false_iff_not] at hb
      have h0 : lim = 0 := by omega
      subst h0
      exact kE rfl e he
end
end K33

set_option Elab.async false
set_option maxRecDepth 100000
set_option maxHeartbeats 4000000
namespace K33
open PySem PySem.Spec PyProof.Rows L2
theorem fitsL {x : Int} (h1 : -1000000 ≤ x) (h2 : x ≤ 1000000) : Builtin.Range.rangeFitsLong x = true := by
  unfold Builtin.Range.rangeFitsLong
  simp
  omega
theorem rg_size {p L : Nat} : Builtin.Range.rangeSize (p : Int) (-1) (-((L : Int) + 1)) = ((p / (L + 1) + 1 : Nat) : Int) := by
  unfold Builtin.Range.rangeSize
  rw [if_neg (by omega), if_pos (by omega), show (p : Int) - -1 - 1 = (p : Int) by omega, Int.neg_neg]
  rw [Int.natCast_add, Int.natCast_ediv]
  rfl
theorem rg_dn {p L : Nat} (h1 : 1 ≤ L) (h3 : L ≤ 3) (hp : p ≤ 1000) : RgC (p : Int) (-1) (-((L : Int) + 1)) (p / (L + 1) + 1) := by
  refine ⟨by omega, by omega, ?_, rg_size⟩
  have hq := Nat.div_le_self p (L + 1)
  unfold Builtin.Range.small
  rw [rg_size]
  generalize p / (L + 1) = q at hq ⊢
  rw [fitsL (by omega) (by omega), fitsL (by omega) (by omega), fitsL (by omega) (by omega), fitsL (by omega) (by omega), if_neg (by omega), fitsL (by omega) (by omega), Bool.or_true]
  rfl
theorem dl_rg {p L k : Nat} : rgC (p : Int) (-((L : Int) + 1)) k = (dl L (p : Int) k).map V.int := by
  unfold rgC dl
  rw [List.map_map]
  refine List.map_congr_left fun i _ => ?_
  show V.int ((p : Int) + (i : Int) * (-((L : Int) + 1))) = V.int ((p : Int) - (i : Int) * ((L : Int) + 1))
  rw [Int.mul_neg]
  rfl
theorem rl_rg {a b : Int} : rgV a b = (rl a b).map V.int := by
  unfold rgV rl
  rw [List.map_map]
  rfl
section
variable {P : Program} {w : World} {K : PySem.W.Frag} {mg : Str → Option Value} {base : Heap} {A : Ad}
def spChains (A : Ad) : Sp := fun vs H Q _ => ∃ (pa : Addr) (d t : Int) (L : Nat) (z : Int) (m p : Nat), vs = [.ref pa, .int (m : Int), .int (p : Int)] ∧ LullAt A H pa d t (L : Int) z ∧ 1 ≤ L ∧ L ≤ 3 ∧ m ≤ 500 ∧ p ≤ m + L + 1 ∧
  ∀ R a b H', Ext H H' → H' R = some (.lst [.ref a, .ref b]) → H' a = some (.tup ((toF L p).map V.int)) → H' b = some (.tup ((toL L m p).map V.int)) → Q (.ref R) H'
theorem ok_chains {f : Addr} {fd : FuncData} (F : Fun K "chains_from" "chains_from" s_chains_from f fd) (T : Txt K mg A) : FnOk P w K mg base CX0 1 f fd pm_chains_from (spChains A) := by
  refine F.ok sc_chains_from (fun vs H Q E h => ?_) (fun cdv A' outer s H vs Q E hr h => ?_)
  · obtain ⟨_, _, _, _, _, _, _, rfl, _⟩ := h
    rfl
  · obtain ⟨pa, d, t, L, z, m, p, rfl, hL, l1, l3, m5, hp, k⟩ := h
    refine ⟨_, pss_cons (ps_set (i := 3) sc_chains_from.nd rfl (Or.inl rfl) (pe_op op_add (pe_fld (pv 0) rfl) (pe_int)))
      (pss_cons (ps_set (i := 4) sc_chains_from.nd rfl (Or.inl rfl) (pe_listRg3 rfl (by rfl) T.n_list (prg_3 (by rfl) T.n_range (pa_cons (pv 2) (pa_cons (pe_un un_neg (pe_int)) (pa_cons (pe_un un_neg (pv 3)) pa_nil))))))
      (Evl.pss_cut (ps_if (pt_cmpR op_ne (pe_ix ix_list (pv 4) (pe_un un_neg (pe_int)) (fun _ _ => rfl)) (pe_int) (nomark _)) (pss_one (ps_aug (i := 4) sc_chains_from.nd rfl (Or.inl rfl) (pe_op op_cat (pe_listRg rfl (by rfl) T.n_list (prg_2 (by rfl) T.n_range (pe_op op_add (pe_ix ix_list (pv 4) (pe_un un_neg (pe_int)) (fun _ _ => rfl)) (pe_int)) (pe_op op_add (pv 3) (pe_int)))) (pe_lst (pa_cons (pe_int) pa_nil))) iop_ext)) (pss_nil))
      (pss_cons (ps_set (i := 5) sc_chains_from.nd rfl (Or.inl rfl) (pe_ifExp (pt_cmpR op_le (pv 2) (pv 1) (nomark _)) (pe_lst (pa_cons (pv 2) pa_nil)) (pe_lst (pa_cons (pv 2) (pa_cons (pe_op op_sub (pv 2) (pv 3)) pa_nil)))))
      (pss_cons (ps_aug (i := 5) sc_chains_from.nd rfl (Or.inl rfl) (pe_listRg rfl (by rfl) T.n_list (prg_2 (by rfl) T.n_range (pe_op op_add (pe_ix ix_list (pv 5) (pe_un un_neg (pe_int)) (fun _ _ => rfl)) (pe_int)) (pe_op op_add (pv 1) (pe_int)))) iop_ext)
      (pss_one (ps_ret (pe_lst (pa_cons (pe_callTy call_tuple_of (by rfl) T.n_tuple (by decide +kernel) (pa_cons (pv 4) pa_nil)) (pa_cons (pe_callTy call_tuple_of (by rfl) T.n_tuple (by decide +kernel) (pa_cons (pv 5) pa_nil)) pa_nil))))))))), ?_⟩
    obtain ⟨dx, hpa⟩ := id hL
    refine ⟨_, rfl, pa, A.Lull, dx, _, _, rfl, hpa, T.Lull.cl, T.c_losses, rfl, _, _, rfl, rfl, ?_⟩
    refine ⟨_, rfl, _, rfl, _, rfl, _, rfl, (p : Int), -1, -((L : Int) + 1), rfl, by omega, ⟨by omega, by omega, by omega, by omega, by omega⟩, ?_⟩
    have hqs := Nat.div_le_self p (L + 1)
    refine ⟨p / (L + 1) + 1, rg_dn l1 l3 (by omega), by omega, fun Fq hF => ?_⟩
    rw [dl_rg]
    have e1 := Ext.upd (o := .lst ((dl L (p : Int) (p / (L + 1) + 1)).map V.int)) hF
    have hF1 : (upd H Fq (.lst ((dl L (p : Int) (p / (L + 1) + 1)).map V.int))) Fq = some (.lst ((dl L (p : Int) (p / (L + 1) + 1)).map V.int)) := upd_same
    generalize upd H Fq (.lst ((dl L (p : Int) (p / (L + 1) + 1)).map V.int)) = H1 at e1 hF1 ⊢
    have hmod := Nat.mod_lt p (show 0 < L + 1 by omega)
    have hdm := Nat.div_add_mod p (L + 1)
    have hr : (p : Int) - ((p / (L + 1) : Nat) : Int) * ((L : Int) + 1) = ((p % (L + 1) : Nat) : Int) := by
      have : ((p : Nat) : Int) = (((L + 1) * (p / (L + 1)) + p % (L + 1) : Nat) : Int) := by rw [hdm]
      rw [Int.natCast_add, cmul, Int.mul_comm] at this
      rw [show ((L + 1 : Nat) : Int) = (L : Int) + 1 from rfl] at this
      omega
    have hlast : ((dl L (p : Int) (p / (L + 1) + 1)).map V.int).getLast? = some (.int ((p % (L + 1) : Nat) : Int)) := by
      rw [dl_last, hr, List.map_append, List.getLast?_append]
      rfl
    have hdl : (dl L (p : Int) (p / (L + 1) + 1)).length = p / (L + 1) + 1 := by
      unfold dl
      rw [List.length_map, List.length_range]
    refine ⟨fun σ H' => Ext H H' ∧ σ = [some (.ref pa), some (.int (m : Int)), some (.int (p : Int)), some (.int ((L : Int) + 1)), some (.ref Fq), Option.none] ∧ H' Fq = some (.lst ((toF L p).map V.int)), ?_, ?_⟩
    · refine ⟨_, rfl, _, rfl, Fq, _, -1, .int ((p % (L + 1) : Nat) : Int), rfl, rfl, SqL.of hF1, last_at hlast, rfl, _, rfl, ?_⟩
      by_cases h0 : p % (L + 1) = 0
      · rw [show (!decide (V.int ((p % (L + 1) : Nat) : Int) = V.int 0)) = false by rw [h0]; rfl]
        refine iteF ⟨e1, rfl, ?_⟩
        unfold toF
        rw [if_pos h0, List.append_nil]
        exact hF1
      · rw [show (!decide (V.int ((p % (L + 1) : Nat) : Int) = V.int 0)) = true by rw [decide_eq_false (fun e => h0 (by injection e with e; omega))]; rfl]
        refine iteT ⟨.ref Fq, rfl, _, rfl, _, rfl, Fq, _, -1, .int ((p % (L + 1) : Nat) : Int), rfl, rfl, SqL.of hF1, last_at hlast, _, _, rfl, rfl, _, rfl, _, _, rfl, rfl, _, _, rfl, rfl, ?_⟩
        refine ⟨⟨by omega, by omega, by omega, by omega, by omega⟩, fun q1 hq1 => ⟨by show 1 ≤ sizeLine; decide, fun q2 hq2 => ?_⟩⟩
        rw [rl_rg] at hq2 ⊢
        have a1 := Ext.upd (o := .lst ((rl (((p % (L + 1) : Nat) : Int) + 1) ((L : Int) + 1 + 1)).map V.int)) hq1
        have a2 := Ext.upd (o := .lst [.int 0]) hq2
        have hrl : (rl (((p % (L + 1) : Nat) : Int) + 1) ((L : Int) + 1 + 1)).length ≤ 5 := by
          unfold rl
          rw [List.length_map, List.length_range]
          omega
        refine ⟨q1, q2, _, _, rfl, rfl, a2 _ _ upd_same, upd_same, Nat.le_trans (show _ ≤ 1000 by rw [List.length_map]; show _ + 1 ≤ 1000; omega) (by decide), fun q3 hq3 => ?_⟩
        have a3 := Ext.upd (o := .lst ((rl (((p % (L + 1) : Nat) : Int) + 1) ((L : Int) + 1 + 1)).map V.int ++ [.int 0])) hq3
        have a13 := (a1.trans a2).trans a3
        refine ⟨Fq, q3, _, _, rfl, rfl, a13 _ _ hF1, upd_same, Nat.le_trans (show _ ≤ 2000 by rw [List.length_map, hdl, List.length_append, List.length_map]; show _ + (_ + 1) ≤ 2000; omega) (by decide), ext_mut (e1.trans a13) hF, rfl, ?_⟩
        rw [upd_same]
        unfold toF
        rw [if_neg h0, List.map_append, List.map_append, show (L : Int) + 1 + 1 = (L : Int) + 2 by omega]
        rfl
    · rintro σ H2 ⟨e2, rfl, hF2⟩
      refine ⟨_, rfl, _, rfl, _, _, rfl, rfl, _, rfl, ?_⟩
      by_cases hpm : p ≤ m
      case' pos =>
        rw [decide_eq_true (show (p : Int) ≤ (m : Int) by omega)]
        refine iteT ⟨_, rfl, by show 1 ≤ sizeLine; decide, fun Lq hLq => ?_⟩
        have a1 := Ext.upd (o := .lst [.int (p : Int)]) hLq
        have hL1 : (upd H2 Lq (.lst [.int (p : Int)])) Lq = some (.lst [.int (p : Int)]) := upd_same
        generalize upd H2 Lq (.lst [.int (p : Int)]) = H3 at a1 hL1 ⊢
        refine ⟨.ref Lq, rfl, _, rfl, _, rfl, Lq, _, -1, .int (p : Int), rfl, rfl, SqL.of hL1, rfl, _, _, rfl, rfl, _, rfl, _, _, rfl, rfl, _, _, rfl, rfl, ⟨by omega, by omega, by omega, by omega, by omega⟩, fun q1 hq1 => ?_⟩
        rw [rl_rg]
        have a2 := Ext.upd (o := .lst ((rl ((p : Int) + 1) ((m : Int) + 2)).map V.int)) hq1
        have hrl : (rl ((p : Int) + 1) ((m : Int) + 2)).length ≤ 600 := by
          unfold rl
          rw [List.length_map, List.length_range]
          omega
        have hcont : [V.int (p : Int)] ++ (rl ((p : Int) + 1) ((m : Int) + 2)).map V.int = (toL L m p).map V.int := by
          unfold toL
          rw [if_pos hpm]
          rfl
        refine ⟨Lq, q1, _, _, rfl, rfl, a2 _ _ hL1, upd_same, Nat.le_trans (show _ ≤ 1000 by rw [List.length_map]; show 1 + _ ≤ 1000; omega) (by decide), ?_⟩
      case' neg =>
        rw [decide_eq_false (show ¬ (p : Int) ≤ (m : Int) by omega)]
        refine iteF ⟨_, rfl, _, rfl, _, rfl, _, _, rfl, rfl, by show 2 ≤ sizeLine; decide, fun Lq hLq => ?_⟩
        have a1 := Ext.upd (o := .lst [.int (p : Int), .int ((p : Int) - ((L : Int) + 1))]) hLq
        have hL1 : (upd H2 Lq (.lst [.int (p : Int), .int ((p : Int) - ((L : Int) + 1))])) Lq = some (.lst [.int (p : Int), .int ((p : Int) - ((L : Int) + 1))]) := upd_same
        generalize upd H2 Lq (.lst [.int (p : Int), .int ((p : Int) - ((L : Int) + 1))]) = H3 at a1 hL1 ⊢
        refine ⟨.ref Lq, rfl, _, rfl, _, rfl, Lq, _, -1, .int ((p : Int) - ((L : Int) + 1)), rfl, rfl, SqL.of hL1, rfl, _, _, rfl, rfl, _, rfl, _, _, rfl, rfl, _, _, rfl, rfl, ⟨by omega, by omega, by omega, by omega, by omega⟩, fun q1 hq1 => ?_⟩
        rw [rl_rg]
        have a2 := Ext.upd (o := .lst ((rl ((p : Int) - ((L : Int) + 1) + 1) ((m : Int) + 2)).map V.int)) hq1
        have hrl : (rl ((p : Int) - ((L : Int) + 1) + 1) ((m : Int) + 2)).length ≤ 600 := by
          unfold rl
          rw [List.length_map, List.length_range]
          omega
        have hcont : [V.int (p : Int), .int ((p : Int) - ((L : Int) + 1))] ++ (rl ((p : Int) - ((L : Int) + 1) + 1) ((m : Int) + 2)).map V.int = (toL L m p).map V.int := by
          unfold toL
          rw [if_neg hpm, show (p : Int) - ((L : Int) + 1) = (p : Int) - L - 1 by omega]
          rfl
        refine ⟨Lq, q1, _, _, rfl, rfl, a2 _ _ hL1, upd_same, Nat.le_trans (show _ ≤ 1000 by rw [List.length_map]; show 2 + _ ≤ 1000; omega) (by decide), ?_⟩
      all_goals (
        have e4 := ext_mut (o := .lst ((toL L m p).map V.int)) (a1.trans a2) hLq
        rw [hcont]
        have hF4 := e4 _ _ hF2
        refine ⟨_, rfl, Fq, _, rfl, .inl ⟨SqL.of hF4, fun t1 ht1 => ?_⟩⟩
        have e5 := Ext.upd (o := .tup ((toF L p).map V.int)) ht1
        refine ⟨_, rfl, Lq, _, rfl, .inl ⟨SqL.of (e5 _ _ upd_same), fun t2 ht2 => ⟨by show 2 ≤ sizeLine; decide, fun R hR => ?_⟩⟩⟩
        have e6 := Ext.upd (o := .tup ((toL L m p).map V.int)) ht2
        have e7 := Ext.upd (o := .lst [V.ref t1, .ref t2]) hR
        exact k R t1 t2 _ ((((e2.trans e4).trans e5).trans e6).trans e7) upd_same (e7 _ _ (e6 _ _ upd_same)) (e7 _ _ upd_same))
end
end K33

set_option Elab.async false
set_option maxRecDepth 100000
set_option maxHeartbeats 4000000
namespace K33
open PySem PySem.Spec PyProof.Rows L2
theorem Fx.ints {C : List Int} : ∀ x ∈ C.map V.int, Fx x := fun x hx => by
  obtain ⟨n, _, rfl⟩ := List.mem_map.mp hx
  exact .inl ⟨n, rfl⟩
theorem toF_len {L m p : Nat} (h3 : L ≤ 3) (hm : m ≤ 500) (hp : p ≤ m + L + 1) : (toF L p).length ≤ 900 := by
  have hq := Nat.div_le_self p (L + 1)
  unfold toF dl rl
  rw [List.length_append, List.length_map, List.length_range]
  split
  · show _ + 0 ≤ 900
    omega
  · rw [List.length_append, List.length_map, List.length_range]
    show _ + (_ + 1) ≤ 900
    omega
theorem toL_len {L m p : Nat} (h3 : L ≤ 3) (hm : m ≤ 500) (hp : p ≤ m + L + 1) : (toL L m p).length ≤ 900 := by
  unfold toL rl
  split
  · rw [List.length_cons, List.length_map, List.length_range]
    omega
  · rw [List.length_cons, List.length_cons, List.length_map, List.length_range]
    omega
def places (L m : Nat) : List Nat := 1 :: (List.range (L + 1)).map (m + 1 + ·)
theorem mem_places {L m p : Nat} : p ∈ places L m ↔ p = 1 ∨ (m + 1 ≤ p ∧ p ≤ m + L + 1) := by
  unfold places
  rw [List.mem_cons, List.mem_map]
  constructor
  · rintro (h | ⟨i, hi, rfl⟩)
    · exact .inl h
    · have := List.mem_range.mp hi
      exact .inr ⟨by omega, by omega⟩
  · rintro (h | ⟨h1, h2⟩)
    · exact .inl h
    · exact .inr ⟨p - m - 1, List.mem_range.mpr (by omega), by omega⟩
theorem places_rl {L m : Nat} : [V.int 1] ++ (rl ((m : Int) + 1) ((m : Int) + L + 2)).map V.int = (places L m).map fun (p : Nat) => V.int (p : Int) := by
  unfold places rl
  rw [show ((m : Int) + L + 2 - ((m : Int) + 1)).toNat = L + 1 by omega, List.map_cons, List.map_map, List.map_map]
  congr 1
section
variable {P : Program} {w : World} {K : PySem.W.Frag} {mg : Str → Option Value} {base : Heap} {A : Ad}
def TellAt (d t : Int) (L : Nat) (z lim : Int) (m : Nat) (H : Hp) (v : V) : Prop := (v = .non ∧ Ok d t L z lim m) ∨ ∃ tr C, v = .ref tr ∧ H tr = some (.tup ((C : List Int).map V.int)) ∧ barsB d t L z lim m C = true ∧ C.length ≤ 900
def spBarring (A : Ad) : Sp := fun vs H Q _ => ∃ (pa : Addr) (lim d t : Int) (L : Nat) (z : Int) (m : Nat), vs = [.ref pa, .int lim, .int (m : Int)] ∧ LullAt A H pa d t (L : Int) z ∧ Sizes d t L z ∧ 1 ≤ lim ∧ lim ≤ 20000 ∧ (m : Int) ≤ z - 1 ∧ ∀ v H', Ext H H' → TellAt d t L z lim m H' v → Q v H'
theorem ok_barring {f : Addr} {fd : FuncData} (F : Fun K "barring_chain" "barring_chain" s_barring_chain f fd) (T : Txt K mg A) (O_check_limit : Own P w K mg base (L2.CX P w) "check_limit" 4 pm_check_limit (spLimit A)) (O_check_count : Own P w K mg base CX0 "check_count" 3 pm_check_count (spCheckCount A)) (O_bars : Own P w K mg base CX0 "bars" 5 pm_bars (spBars A))
    (O_chains_from : Own P w K mg base CX0 "chains_from" 1 pm_chains_from (spChains A)) : FnOk P w K mg base CX0 6 f fd pm_barring_chain (spBarring A) := by
  refine F.ok sc_barring_chain (fun vs H Q E h => ?_) (fun cdv A' outer s H vs Q E hr h => ?_)
  · obtain ⟨_, _, _, _, _, _, _, rfl, _⟩ := h
    rfl
  · obtain ⟨pa, lim, d, t, L, z, m, rfl, hL, sz, l0, l1, hm, k⟩ := h
    refine ⟨_, pss_cons (ps_expr (pe_own O_check_limit (hr.mono (by decide)) passL (pa_cons (pv 1) pa_nil)))
      (pss_cons (ps_expr (pe_own O_check_count (hr.mono (by decide)) pass0 (pa_cons (pv 0) (pa_cons (pv 2) pa_nil))))
      (pss_cons (ps_for PassesOwn.never rfl (pi_list (pe_op op_cat (pe_lst (pa_cons (pe_int) pa_nil)) (pe_listRg rfl (by rfl) T.n_list (prg_2 (by rfl) T.n_range (pe_op op_add (pv 2) (pe_int)) (pe_op op_add (pe_op op_add (pv 2) (pe_fld (pv 0) rfl)) (pe_int)))))) (pg_name (i := 3) sc_barring_chain.nd rfl (Or.inl rfl)) (pss_one (ps_for PassesOwn.never rfl (pi_list (pe_own O_chains_from (hr.mono (by decide)) pass0 (pa_cons (pv 0) (pa_cons (pv 2) (pa_cons (pv 3) pa_nil))))) (pg_name (i := 4) sc_barring_chain.nd rfl (Or.inl rfl)) (pss_one (ps_if (pt_val (pe_own O_bars (hr.mono (by decide)) pass0 (pa_cons (pv 0) (pa_cons (pv 1) (pa_cons (pv 2) (pa_cons (pv 4) pa_nil)))))) (pss_one (ps_ret (pv 4))) (pss_nil))))))
      (pss_one (ps_ret (pe_non))))), ?_⟩
    obtain ⟨dx, hpa⟩ := id hL
    have z2 := sz.z2
    have s1 := sz.l1
    have s2 := sz.l2
    refine ⟨_, rfl, .int lim, .int, rfl, ⟨lim, rfl⟩, fun hb => ?_, fun hb => by rw [lim_ok (by omega) l1, decide_eq_false_iff_not] at hb; omega⟩
    refine ⟨_, rfl, _, rfl, pa, d, t, L, z, m, rfl, hL, by omega, hm, ?_⟩
    refine ⟨by show 1 ≤ sizeLine; decide, fun q1 hq1 => ?_⟩
    have e1 := Ext.upd (o := .lst [.int 1]) hq1
    refine ⟨_, rfl, _, _, rfl, rfl, _, rfl, _, rfl, pa, A.Lull, dx, _, _, rfl, e1 _ _ hpa, T.Lull.cl, T.c_losses, rfl, _, _, rfl, rfl, _, _, rfl, rfl, _, _, rfl, rfl, ⟨by omega, by omega, by omega, by omega, by omega⟩, fun q2 hq2 => ?_⟩
    rw [rl_rg]
    have e2 := Ext.upd (o := .lst ((rl ((m : Int) + 1) ((m : Int) + L + 2)).map V.int)) hq2
    refine ⟨q1, q2, _, _, rfl, rfl, e2 _ _ upd_same, upd_same, Nat.le_trans (show _ ≤ 1000 by unfold rl; rw [List.length_map, List.length_map, List.length_range]; show 1 + _ ≤ 1000; omega) (by decide), fun Pl hPl => ?_⟩
    have e3 := Ext.upd (o := .lst ([V.int 1] ++ (rl ((m : Int) + 1) ((m : Int) + L + 2)).map V.int)) hPl
    have e13 := (e1.trans e2).trans e3
    rw [places_rl] at e3 e13 ⊢
    have hP0 : (upd (upd (upd H q1 (.lst [.int 1])) q2 (.lst ((rl ((m : Int) + 1) ((m : Int) + L + 2)).map V.int))) Pl (.lst ((places L m).map fun (p : Nat) => V.int (p : Int)))) Pl = some (.lst ((places L m).map fun (p : Nat) => V.int (p : Int))) := upd_same
    generalize upd (upd (upd H q1 (.lst [.int 1])) q2 (.lst ((rl ((m : Int) + 1) ((m : Int) + L + 2)).map V.int))) Pl (.lst ((places L m).map fun (p : Nat) => V.int (p : Int))) = H1 at e13 hP0 ⊢
    refine ⟨Pl, rfl, ⟨_, SqL.of hP0⟩, ?_⟩
    refine for_list (xs := (places L m).map fun (p : Nat) => V.int (p : Int)) (fun i σ' H' => Ext H1 H' ∧ (∃ o3 o4, σ' = [some (.ref pa), some (.int lim), some (.int (m : Int)), o3, o4]) ∧ ∀ (j p : Nat), j < i → (places L m)[j]? = some p → barsB d t L z lim m (toF L p) = false ∧ barsB d t L z lim m (toL L m p) = false) ⟨Ext.rfl', ⟨_, _, rfl⟩, fun j p h => absurd h (Nat.not_lt_zero _)⟩ (fun i σ' H' _ pv => SqL.of (pv.1 _ _ hP0)) (fun i x σ' H2 hx pv => ?_) (fun σ' H2 pv => ?_)
    · obtain ⟨e4, ⟨o3, o4, rfl⟩, hno⟩ := pv
      rw [List.getElem?_map] at hx
      obtain ⟨p, hp, rfl⟩ := Option.map_eq_some_iff.mp hx
      have hpl : p ≤ m + L + 1 := by
        have := mem_places.mp (List.mem_of_getElem? hp)
        omega
      refine ⟨_, rfl, _, rfl, _, rfl, pa, d, t, L, z, m, p, rfl, hL.ext (e13.trans e4), by omega, by omega, by omega, hpl, fun R a b H3 e5 hR ha hb => ⟨R, rfl, ⟨_, SqL.of hR⟩, ?_⟩⟩
      refine for_list (xs := [V.ref a, .ref b]) (fun i σ' H' => Ext H3 H' ∧ (∃ o4, σ' = [some (.ref pa), some (.int lim), some (.int (m : Int)), some (.int (p : Int)), o4]) ∧ (1 ≤ i → barsB d t L z lim m (toF L p) = false) ∧ (2 ≤ i → barsB d t L z lim m (toL L m p) = false)) ⟨Ext.rfl', ⟨_, rfl⟩, fun h => absurd h (by decide), fun h => absurd h (by decide)⟩ (fun i σ' H' _ pv => SqL.of (pv.1 _ _ hR)) (fun j x σ' H4 hx pv => ?_) (fun σ' H4 pv => ?_)
      · obtain ⟨e6, ⟨o4', rfl⟩, n1, n2⟩ := pv
        have eall := ((e13.trans e4).trans e5).trans e6
        obtain ⟨tr, C, rfl, hC, hlen, hj⟩ : ∃ tr C, x = .ref tr ∧ H4 tr = some (.tup ((C : List Int).map V.int)) ∧ C.length ≤ 900 ∧ ((j = 0 ∧ C = toF L p) ∨ (j = 1 ∧ C = toL L m p)) := by
          rcases j with _ | _ | j
          · cases hx
            exact ⟨a, _, rfl, e6 _ _ ha, toF_len (by omega) (by omega) hpl, .inl ⟨rfl, rfl⟩⟩
          · cases hx
            exact ⟨b, _, rfl, e6 _ _ hb, toL_len (by omega) (by omega) hpl, .inr ⟨rfl, rfl⟩⟩
          · cases hx
        refine ⟨_, rfl, _, rfl, _, rfl, _, rfl, pa, lim, d, t, L, z, m, .ref tr, some (C.map V.int), rfl, hL.ext eall, sz, by omega, l1, ⟨tr, rfl, hC, Fx.ints, by rw [List.length_map]; omega⟩, fun H5 e7 => ⟨_, rfl, ?_⟩⟩
        rw [barsV_some, toNs_int]
        show if barsB d t L z lim m C = true then _ else _
        cases hbar : barsB d t L z lim m C with
        | true => exact iteT ⟨_, rfl, k (.ref tr) H5 (eall.trans e7) (.inr ⟨tr, C, rfl, e7 _ _ hC, hbar, hlen⟩)⟩
        | false =>
          refine iteF ⟨e6.trans e7, ⟨_, rfl⟩, fun _ => ?_, fun h2 => ?_⟩
          · rcases hj with ⟨rfl, rfl⟩ | ⟨rfl, rfl⟩
            · exact hbar
            · exact n1 (Nat.le_refl _)
          · rcases hj with ⟨rfl, rfl⟩ | ⟨rfl, rfl⟩
            · omega
            · exact hbar
      · obtain ⟨e6, ⟨o4', rfl⟩, n1, n2⟩ := pv
        refine ⟨(e4.trans e5).trans e6, ⟨_, _, rfl⟩, fun j p' hj hp' => ?_⟩
        by_cases e : j = i
        · subst e
          rw [hp] at hp'
          cases hp'
          exact ⟨n1 (by show 1 ≤ 2; decide), n2 (by show 2 ≤ 2; decide)⟩
        · exact hno j p' (by omega) hp'
    · obtain ⟨e4, ⟨o3, o4, rfl⟩, hno⟩ := pv
      refine k .non H2 (e13.trans e4) (.inl ⟨rfl, found (okOf sz) hm fun p hp => ?_⟩)
      obtain ⟨j, hj⟩ := List.mem_iff_getElem?.mp (mem_places.mpr hp)
      exact hno j p (by rw [List.length_map]; exact (List.getElem?_eq_some_iff.mp hj).1) hj
end
end K33

set_option Elab.async false
set_option maxRecDepth 100000
set_option maxHeartbeats 4000000
namespace K33
open PySem PySem.Spec PyProof.Rows L2
theorem FnOk.or {P : Program} {w : World} {K : PySem.W.Frag} {mg : Str → Option Value} {base : Heap} {CX : CXT} {k : Nat} {f : Addr} {fd : FuncData} {ps : List Str} {sp sp' : Sp} (F : FnOk P w K mg base CX k f fd ps sp) (G : FnOk P w K mg base CX k f fd ps sp') : FnOk P w K mg base CX k f fd ps (fun vs H Q E => sp vs H Q E ∨ sp' vs H Q E) :=
  ⟨fun vs H Q E h => h.elim (F.len vs H Q E) (G.len vs H Q E), fun A outer s H args us vs Q E hr he hb hv hs => hs.elim (F.run A outer s H args us vs Q E hr he hb hv) (G.run A outer s H args us vs Q E hr he hb hv)⟩
def SgAt (H : Hp) (v : V) : Option (List Int) → Prop
  | some S => ∃ q, v = .ref q ∧ H q = some (.tup (S.map V.int)) ∧ S.length ≤ 600
  | none => ∃ k, KndOf H v k ∧ k.isTup = false
section
variable {P : Program} {w : World} {K : PySem.W.Frag} {mg : Str → Option Value} {base : Heap} {A : Ad}
def spAreN : Sp := fun vs H Q _ => ∃ (p : Addr) (v : V) (k : Knd), vs = [.ref p, v] ∧ KndOf H v k ∧ k.isTup = false ∧ Q (.bl false) H
theorem ok_areN {f : Addr} {fd : FuncData} (F : Fun K "are_signs" "are_signs" s_are_signs f fd) (T : Txt K mg A) (O_is_sign_behind : Own P w K mg base CX0 "is_sign_behind" 3 pm_is_sign_behind (spSign A)) : FnOk P w K mg base CX0 4 f fd pm_are_signs spAreN := by
  refine F.ok sc_are_signs (fun vs H Q E h => ?_) (fun cdv A' outer s H vs Q E hr h => ?_)
  · obtain ⟨_, _, _, rfl, _⟩ := h
    rfl
  · obtain ⟨p, v, k, rfl, hk, ht, q⟩ := h
    refine ⟨_, pss_cons (ps_if (pt_not (pt_val (pe_callB call_isi (by rfl) T.n_isinstance (by decide +kernel) (pa_cons (pv 1) (pa_cons (pe_bltn (v := .ty "tuple") (by rfl) T.n_tuple (by decide +kernel) rfl) pa_nil))))) (pss_one (ps_ret (pe_bl))) (pss_nil))
      (pss_cons (ps_for PassesOwn.never rfl (pi_range1 rfl T.n_range (pa_cons (pe_callB call_len_seq (by rfl) T.n_len (by decide +kernel) (pa_cons (pv 1) pa_nil)) pa_nil)) (pg_name (i := 2) sc_are_signs.nd rfl (Or.inl rfl)) (pss_one (ps_if (pt_not (pt_val (pe_own O_is_sign_behind (hr.mono (by decide)) pass0 (pa_cons (pv 0) (pa_cons (pv 1) (pa_cons (pv 2) pa_nil)))))) (pss_one (ps_ret (pe_bl))) (pss_nil))))
      (pss_one (ps_ret (pe_bl)))), ?_⟩
    refine ⟨_, rfl, v, .ty "tuple", .type k.name, .type "tuple", k.isTup, rfl, .ty _, knd_ty hk, knd_tup, _, rfl, ?_⟩
    rw [ht]
    exact iteT q
def spDoN (A : Ad) : Sp := fun vs H Q _ => ∃ (p : Addr) (lim : Int) (v : V) (k : Knd), vs = [.ref p, .int lim, v] ∧ KndOf H v k ∧ k.isTup = false ∧ Q (.bl false) H
theorem ok_doN {f : Addr} {fd : FuncData} (F : Fun K "signs_do" "signs_do" s_signs_do f fd) (T : Txt K mg A) (O_are_signs : Own P w K mg base CX0 "are_signs" 4 pm_are_signs spAreN) (O_stops_of : Own P w K mg base CX0 "stops_of" 1 pm_stops_of (spStopsOf K A)) (O_widest : Own P w K mg base CX0 "widest" 1 pm_widest (spWidest A)) : FnOk P w K mg base CX0 5 f fd pm_signs_do (spDoN A) := by
  refine F.ok sc_signs_do (fun vs H Q E h => ?_) (fun cdv A' outer s H vs Q E hr h => ?_)
  · obtain ⟨_, _, _, _, rfl, _⟩ := h
    rfl
  · obtain ⟨p, lim, v, k, rfl, hk, ht, q⟩ := h
    refine ⟨_, pss_one (ps_ret (pe_and (pe_own O_are_signs (hr.mono (by decide)) pass0 (pa_cons (pv 0) (pa_cons (pv 2) pa_nil))) (pe_one (pe_cmpR op_le (pe_own O_widest (hr.mono (by decide)) pass0 (pa_cons (pv 0) (pa_cons (pe_own O_stops_of (hr.mono (by decide)) pass0 (pa_cons (pv 0) (pa_cons (pv 2) pa_nil))) pa_nil))) (pv 1) (nomark _))))), ?_⟩
    exact ⟨_, rfl, _, rfl, p, v, k, rfl, hk, ht, _, rfl, iteF q⟩
open Classical in
noncomputable def showsV (d t : Int) (L : Nat) (z lim : Int) : Option (List Int) → Option (List V) → Bool
  | none, _ => false
  | some S, xo => decide (Rise z S ∧ Do d t L z S lim) && (decide (S = []) || barsV d t L z lim (S.length - 1) xo)
open Classical in
theorem shows_yes {d t : Int} {L : Nat} {z lim : Int} {S : List Int} {xo : Option (List V)} (h : Rise z S ∧ Do d t L z S lim) : showsV d t L z lim (some S) xo = (decide (S = []) || barsV d t L z lim (S.length - 1) xo) := by
  show (decide (Rise z S ∧ Do d t L z S lim) && _) = _
  rw [decide_eq_true h, Bool.true_and]
open Classical in
theorem shows_no {d t : Int} {L : Nat} {z lim : Int} {S : List Int} {xo : Option (List V)} (h : ¬ (Rise z S ∧ Do d t L z S lim)) : showsV d t L z lim (some S) xo = false := by
  show (decide (Rise z S ∧ Do d t L z S lim) && _) = _
  rw [decide_eq_false h, Bool.false_and]
def spShows (A : Ad) : Sp := fun vs H Q E => ∃ (pa : Addr) (lim d t : Int) (L : Nat) (z : Int) (sv v : V) (So : Option (List Int)) (xo : Option (List V)), vs = [.ref pa, .int lim, sv, v] ∧ LullAt A H pa d t (L : Int) z ∧ Sizes d t L z ∧ 0 ≤ lim ∧ lim ≤ 20000 ∧
  (1 ≤ lim → SgAt H sv So ∧ CvAt H v xo ∧ ∀ H', Ext H H' → Q (.bl (showsV d t L z lim So xo)) H') ∧ (lim = 0 → ∀ e, H e = none → E (.ref A.BadNumber) (some e) (upd H e (.xd [("number", .int 0)])))
theorem ok_shows {f : Addr} {fd : FuncData} (F : Fun K "shows_best" "shows_best" s_shows_best f fd) (T : Txt K mg A) (O_check_limit : Own P w K mg base (L2.CX P w) "check_limit" 4 pm_check_limit (spLimit A)) (O_signs_do : Own P w K mg base CX0 "signs_do" 5 pm_signs_do (fun vs H Q E => spDo A vs H Q E ∨ spDoN A vs H Q E)) (O_bars : Own P w K mg base CX0 "bars" 5 pm_bars (spBars A)) : FnOk P w K mg base (L2.CX P w) 6 f fd pm_shows_best (spShows A) := by
  refine F.okX sc_shows_best (fun vs H Q E h => ?_) (fun cdv A' outer s H vs Q E hr h => ?_)
  · obtain ⟨_, _, _, _, _, _, _, _, _, _, rfl, _⟩ := h
    rfl
  · obtain ⟨pa, lim, d, t, L, z, sv, v, So, xo, rfl, hL, sz, l0, l1, k, kE⟩ := h
    refine ⟨_, pss_cons (ps_expr (pe_ownS O_check_limit (hr.mono (by decide)) (takes_of rfl rfl rfl rfl) (pa_cons (pv 1) pa_nil)))
      (pss_cons (ps_if (pt_not (pt_val (pe_own O_signs_do (hr.mono (by decide)) pass0 (pa_cons (pv 0) (pa_cons (pv 1) (pa_cons (pv 2) pa_nil)))))) (pss_one (ps_ret (pe_bl))) (pss_nil))
      (pss_one (ps_ret (pe_or (pe_cmpR op_eq (pe_callB call_len_seq (by rfl) T.n_len (by decide +kernel) (pa_cons (pv 2) pa_nil)) (pe_int) (nomark _)) (pe_one (pe_own O_bars (hr.mono (by decide)) pass0 (pa_cons (pv 0) (pa_cons (pv 1) (pa_cons (pe_op op_sub (pe_callB call_len_seq (by rfl) T.n_len (by decide +kernel) (pa_cons (pv 2) pa_nil)) (pe_int)) (pa_cons (pv 3) pa_nil)))))))))), ?_⟩
    refine ⟨_, rfl, .int lim, .int, rfl, ⟨lim, rfl⟩, fun hb => ?_, fun hb e he => ?_⟩
    · rw [lim_ok l0 l1, decide_eq_true_eq] at hb
      obtain ⟨hS, hv, k'⟩ := k hb
      clear k
      cases So with
      | none =>
        obtain ⟨kd, hk, ht⟩ := hS
        exact ⟨_, rfl, _, rfl, _, rfl, .inr ⟨pa, lim, sv, kd, rfl, hk, ht, _, rfl, iteT (k' _ Ext.rfl')⟩⟩
      | some S =>
        obtain ⟨q, rfl, hq, hlen⟩ := hS
        refine ⟨_, rfl, _, rfl, _, rfl, .inl ⟨pa, q, lim, d, t, L, z, S, rfl, hL, sz, hq, by omega, fun hdo H1 e1 => ⟨_, rfl, iteF ?_⟩, fun hdo H1 e1 => ⟨_, rfl, iteT ?_⟩⟩⟩
        · rw [shows_yes hdo] at k'
          refine ⟨_, rfl, q, _, rfl, .inr (SqT.of (e1 _ _ hq)), rfl, _, rfl, ?_⟩
          rw [List.length_map]
          cases S with
          | nil => exact iteT (k' _ e1)
          | cons a l =>
            rw [show decide (V.int (((a :: l).length : Nat) : Int) = V.int 0) = false from decide_eq_false fun e => by injection e with e; rw [List.length_cons] at e; omega]
            refine iteF ⟨_, rfl, _, rfl, _, rfl, q, _, rfl, .inr (SqT.of (e1 _ _ hq)), _, _, rfl, rfl, _, rfl, pa, lim, d, t, L, z, (a :: l).length - 1, v, xo, ?_, hL.ext e1, sz, l0, l1, hv.ext e1, fun H2 e2 => ?_⟩
            · rw [List.length_map, List.length_cons]
              show [V.ref pa, .int lim, .int (((l.length + 1 : Nat) : Int) - 1), v] = [V.ref pa, .int lim, .int ((l.length + 1 - 1 : Nat) : Int), v]
              rw [show ((l.length + 1 : Nat) : Int) - 1 = ((l.length + 1 - 1 : Nat) : Int) by omega]
            · exact k' _ (e1.trans e2)
        · rw [shows_no hdo] at k'
          exact k' _ e1
    · rw [lim_ok l0 l1, decide_eq_false_iff_not] at hb
      have h0 : lim = 0 := by omega
      subst h0
      exact kE rfl e he
end
end K33

set_option Elab.async false
set_option maxRecDepth 100000
set_option maxHeartbeats 4000000
namespace K33
open PySem PySem.Spec PyProof.Rows L2
def wS (lim : Int) (x : Int × Int) : Int := if x.2 > x.1 then -1 else lim
theorem cost_sum {lim : Int} : ∀ C : List Int, cost lim C = ((prs C).map (wS lim)).sum
  | [] => rfl
  | [_] => rfl
  | p :: q :: l => by
    show (if q > p then -1 else lim) + cost lim (q :: l) = wS lim (p, q) + (((q :: l).zip l).map (wS lim)).sum
    rw [cost_sum (q :: l)]
    rfl
theorem bars_short {d t : Int} {L : Nat} {z lim : Int} {m : Nat} {xs : List V} (h : xs.length < 2) : barsV d t L z lim m (some xs) = false := by
  rw [barsV_some]
  cases hn : toNs xs with
  | none => rfl
  | some ns =>
    have e := toNs_some hn
    rw [e, List.length_map] at h
    show barsB d t L z lim m ns = false
    match ns, h with
    | [], _ => rfl
    | [p], _ =>
      rw [barsB_chain]
      have : decide (kn d t z m p > kn d t z m (lastI p []) + cost lim [p]) = false := by
        rw [decide_eq_false_iff_not]
        show ¬ (kn d t z m p > kn d t z m p + 0)
        omega
      rw [this, Bool.and_false]
    | _ :: _ :: _, h => exact absurd h (by simp)
section
variable {P : Program} {w : World} {K : PySem.W.Frag} {mg : Str → Option Value} {base : Heap} {A : Ad}
def stV (d t z : Int) (m : Nat) (p : Int) : V := if 1 < p ∧ p ≤ (m : Int) then .non else .int (kn d t z m p)
def spLStop (K : PySem.W.Frag) : Sp := fun vs H Q _ => ∃ (pl : Addr) (d t : Int) (L : Nat) (z : Int) (m : Nat) (p : Int), vs = [.ref pl, .int p, .int (m : Int)] ∧ PlainAt H pl d t (L : Int) z ∧ Sizes d t L z ∧ 0 ≤ p ∧ Q (stV d t z m p) H
theorem ok_lStop {f : Addr} {fd : FuncData} (F : Fun K "_law_stop" "_law_stop" s__law_stop f fd) (T : Txt K mg A) : FnOk P w K mg base CX0 1 f fd pm__law_stop (spLStop K) := by
  refine F.ok sc__law_stop (fun vs H Q E h => ?_) (fun cdv A' outer s H vs Q E hr h => ?_)
  · obtain ⟨_, _, _, _, _, _, _, rfl, _⟩ := h
    rfl
  · obtain ⟨pl, d, t, L, z, m, p, rfl, hP, sz, h0, k⟩ := h
    refine ⟨_, pss_cons (ps_if (pt_cmpR op_eq (pv 1) (pe_int) (nomark _)) (pss_one (ps_ret (pe_op op_mul (pe_un un_neg (pe_int)) (pe_ix ix_list (pv 0) (pe_int) (fun _ _ => rfl))))) (pss_nil))
      (pss_cons (ps_if (pt_cmpR op_gt (pv 1) (pv 2) (nomark _)) (pss_one (ps_ret (pe_op op_add (pe_ix ix_list (pv 0) (pe_int) (fun _ _ => rfl)) (pe_op op_mul (pe_op op_sub (pe_op op_sub (pv 1) (pv 2)) (pe_int)) (pe_ix ix_list (pv 0) (pe_int) (fun _ _ => rfl)))))) (pss_nil))
      (pss_one (ps_ret (pe_ifExp (pt_cmpR op_eq (pv 1) (pe_int) (nomark _)) (pe_int) (pe_non))))), ?_⟩
    have t2 := sz.t2
    have d2 := sz.d2
    have d1 := sz.d1
    have t1 := sz.t1
    have hP' : H pl = some (.lst [.int d, .int t, .int (L : Int), .int z]) := hP
    unfold stV kn at k
    refine ⟨_, rfl, rfl, _, rfl, ?_⟩
    rw [show decide (V.int p = V.int 0) = decide (p = 0) by simp]
    by_cases hp0 : p = 0
    · rw [decide_eq_true hp0]
      rw [if_neg (by omega), if_neg (by omega), if_neg (by omega)] at k
      exact iteT ⟨_, rfl, _, rfl, pl, _, 0, .int d, rfl, rfl, SqL.of hP', rfl, _, _, rfl, rfl, .inr ⟨by omega, by omega⟩, k⟩
    · rw [decide_eq_false hp0]
      refine iteF ⟨_, rfl, _, rfl, _, _, rfl, rfl, _, rfl, ?_⟩
      by_cases hg : p > (m : Int)
      · rw [decide_eq_true hg]
        rw [if_neg (by omega), if_pos hg] at k
        exact iteT ⟨_, rfl, pl, _, 3, .int z, rfl, rfl, SqL.of hP', rfl, _, rfl, _, rfl, _, _, rfl, rfl, _, _, rfl, rfl, _, rfl, pl, _, 1, .int t, rfl, rfl, SqL.of hP', rfl, _, _, rfl, rfl, .inr ⟨by omega, by omega⟩, _, _, rfl, rfl, k⟩
      · rw [decide_eq_false hg]
        refine iteF ⟨_, rfl, rfl, _, rfl, ?_⟩
        rw [show decide (V.int p = V.int 1) = decide (p = 1) by simp]
        by_cases h1 : p = 1
        · rw [decide_eq_true h1]
          rw [if_neg (by omega), if_neg (by omega), if_pos h1] at k
          exact iteT k
        · rw [decide_eq_false h1]
          rw [if_pos (by omega)] at k
          exact iteF k
def spDueC (K : PySem.W.Frag) : Sp := fun vs H Q _ => ∃ (pl : Addr) (lim d t : Int) (L : Nat) (z : Int) (m : Nat) (v : V) (xo : Option (List V)), vs = [.ref pl, .int lim, .int (m : Int), v] ∧ PlainAt H pl d t (L : Int) z ∧ Sizes d t L z ∧ CvAt H v xo ∧ ∀ H', Ext H H' → Q (.bl (barsV d t L z lim m xo)) H'
theorem ok_dueC {f : Addr} {fd : FuncData} (F : Fun K "_law_due" "_law_due" s__law_due f fd) (T : Txt K mg A) (O__law_stop : Own P w K mg base CX0 "_law_stop" 1 pm__law_stop (spLStop K)) : FnOk P w K mg base CX0 2 f fd pm__law_due (spDueC K) := by
  refine F.ok sc__law_due (fun vs H Q E h => ?_) (fun cdv A' outer s H vs Q E hr h => ?_)
  · obtain ⟨_, _, _, _, _, _, _, _, _, rfl, _⟩ := h
    rfl
  · obtain ⟨pl, lim, d, t, L, z, m, v, xo, rfl, hP, sz, hv, k⟩ := h
    refine ⟨_, pss_cons (ps_set (i := 4) sc__law_due.nd rfl (Or.inl rfl) (pe_op op_add (pe_ix ix_list (pv 0) (pe_int) (fun _ _ => rfl)) (pe_int)))
      (pss_cons (ps_if (PW.pt (pw_or (pt_not (pt_val (pe_callB call_isi (by rfl) T.n_isinstance (by decide +kernel) (pa_cons (pv 3) (pa_cons (pe_bltn (v := .ty "tuple") (by rfl) T.n_tuple (by decide +kernel) rfl) pa_nil))))) (pw_or1 (pt_cmpR op_lt (pe_callB call_len_seq (by rfl) T.n_len (by decide +kernel) (pa_cons (pv 3) pa_nil)) (pe_int) (nomark _))))) (pss_one (ps_ret (pe_bl))) (pss_nil))
      (pss_cons (ps_for PassesOwn.never rfl (pi_tup (pv 3)) (pg_name (i := 5) sc__law_due.nd rfl (Or.inl rfl)) (pss_one (ps_if (PW.pt (pw_or (pt_not (pt_val (pe_callB call_isi (by rfl) T.n_isinstance (by decide +kernel) (pa_cons (pv 5) (pa_cons (pe_bltn (v := .ty "int") (by rfl) T.n_int (by decide +kernel) rfl) pa_nil))))) (pw_or (pt_val (pe_callB call_isi (by rfl) T.n_isinstance (by decide +kernel) (pa_cons (pv 5) (pa_cons (pe_bltn (v := .ty "bool") (by rfl) T.n_bool (by decide +kernel) rfl) pa_nil)))) (pw_or1 (pt_not (pt_chain op_le op_le (pe_int) (pv 5) (pe_op op_add (pv 2) (pv 4)))))))) (pss_one (ps_ret (pe_bl))) (pss_nil))))
      (pss_cons (ps_set (i := 6) sc__law_due.nd rfl (Or.inl rfl) (pe_int))
      (pss_cons (ps_for PassesOwn.never rfl (pi_range1 rfl T.n_range (pa_cons (pe_op op_sub (pe_callB call_len_seq (by rfl) T.n_len (by decide +kernel) (pa_cons (pv 3) pa_nil)) (pe_int)) pa_nil)) (pg_name (i := 7) sc__law_due.nd rfl (Or.inl rfl)) (pss_one (ps_if (PW.pt (pw_and (pt_cmpR op_eq (pe_ix ix_tup (pv 3) (pe_op op_add (pv 7) (pe_int)) (fun _ _ => rfl)) (pe_op op_add (pe_ix ix_tup (pv 3) (pv 7) (fun _ _ => rfl)) (pe_int)) (nomark _)) (pw_and1 (pt_chain op_le op_le (pe_int) (pe_ix ix_tup (pv 3) (pv 7) (fun _ _ => rfl)) (pv 2))))) (pss_one (ps_set (i := 6) sc__law_due.nd rfl (Or.inl rfl) (pe_op op_sub (pv 6) (pe_int)))) (pss_one (ps_if (pt_cmpR op_eq (pe_ix ix_tup (pv 3) (pe_op op_add (pv 7) (pe_int)) (fun _ _ => rfl)) (pe_op op_sub (pe_ix ix_tup (pv 3) (pv 7) (fun _ _ => rfl)) (pv 4)) (nomark _)) (pss_one (ps_set (i := 6) sc__law_due.nd rfl (Or.inl rfl) (pe_op op_add (pv 6) (pv 1)))) (pss_one (ps_ret (pe_bl))))))))
      (pss_cons (ps_par (i := 8) (j := 9) (by rfl) sc__law_due.nd rfl rfl (by decide) rfl rfl (pa_cons (pe_own O__law_stop (hr.mono (by decide)) pass0 (pa_cons (pv 0) (pa_cons (pe_ix ix_tup (pv 3) (pe_int) (fun _ _ => rfl)) (pa_cons (pv 2) pa_nil)))) (pa_cons (pe_own O__law_stop (hr.mono (by decide)) pass0 (pa_cons (pv 0) (pa_cons (pe_ix ix_tup (pv 3) (pe_un un_neg (pe_int)) (fun _ _ => rfl)) (pa_cons (pv 2) pa_nil)))) pa_nil)) (by rfl))
      (pss_cons (ps_if (PW.pt (pw_or (pt_cmpR op_isN (pv 8) (pe_non) (nomark _)) (pw_or (pt_cmpR op_isN (pv 9) (pe_non) (nomark _)) (pw_or1 (PW.pt (pw_and (pt_cmpR op_ne (pe_ix ix_tup (pv 3) (pe_un un_neg (pe_int)) (fun _ _ => rfl)) (pe_int) (nomark _)) (pw_and1 (pt_cmpR op_le (pe_ix ix_tup (pv 3) (pe_un un_neg (pe_int)) (fun _ _ => rfl)) (pv 2) (nomark _))))))))) (pss_one (ps_ret (pe_bl))) (pss_nil))
      (pss_one (ps_ret (pe_cmpR op_gt (pv 8) (pe_op op_add (pv 9) (pv 6)) (nomark _)))))))))), ?_⟩
    have hP' : H pl = some (.lst [.int d, .int t, .int (L : Int), .int z]) := hP
    refine ⟨_, rfl, pl, _, 2, .int (L : Int), rfl, rfl, SqL.of hP', rfl, _, _, rfl, rfl, ?_⟩
    cases xo with
    | none =>
      obtain ⟨kd, hk, ht⟩ := hv
      refine ⟨v, rfl, v, .ty "tuple", .type kd.name, .type "tuple", kd.isTup, rfl, .ty _, knd_ty hk, knd_tup, _, rfl, ?_⟩
      rw [ht]
      exact iteT (iteT (k _ Ext.rfl'))
    | some xs =>
      obtain ⟨tr, rfl, htr, hfx, hsm⟩ := hv
      have hk : KndOf H (.ref tr) .tuple := ⟨tr, xs, rfl, htr⟩
      refine ⟨_, rfl, _, .ty "tuple", .type Knd.tuple.name, .type "tuple", Knd.tuple.isTup, rfl, .ty _, knd_ty hk, knd_tup, _, rfl, iteF ⟨_, rfl, tr, xs, rfl, .inr (SqT.of htr), _, _, rfl, rfl, _, rfl, ?_⟩⟩
      by_cases hl : xs.length < 2
      · rw [decide_eq_true (show (xs.length : Int) < 2 by omega)]
        have q := k _ Ext.rfl'
        rw [bars_short hl] at q
        exact iteT q
      · rw [decide_eq_false (show ¬ (xs.length : Int) < 2 by omega)]
        refine iteF ⟨_, rfl, tr, rfl, ⟨_, SqT.of htr⟩, ?_⟩
        refine for_it (walk_tup (xs := xs)) (fun i σ' H' => H' = H ∧ (∃ o5, σ' = [some (.ref pl), some (.int lim), some (.int (m : Int)), some (.ref tr), some (.int ((L : Int) + 1)), o5, none, none, none, none]) ∧ ((xs.take i).all fun x => betw x 0 ((m : Int) + L + 1)) = true) ⟨rfl, ⟨_, rfl⟩, rfl⟩ (fun i σ' H' _ pv => by rw [pv.1]; exact SqT.of htr) (fun i x σ' H' H2 hi pv hy => ?_) (fun σ' H' pv => ?_)
        · obtain ⟨rfl, ⟨o5, rfl⟩, hall⟩ := pv
          obtain ⟨rfl, hx⟩ := hy
          rw [take_snoc hx, List.all_append, hall, Bool.true_and]
          have bad : betw x 0 ((m : Int) + L + 1) = false → Q (.bl false) H2 := fun hb => by
            have q := k _ Ext.rfl'
            rw [bars_of_chain (chain_no (xs := xs) (by
              cases hc : xs.all fun x => betw x 0 ((m : Int) + L + 1) with
              | false => rfl
              | true =>
                have := List.all_eq_true.mp hc x (List.mem_of_getElem? hx)
                rw [hb] at this
                cases this))] at q
            exact q
          rcases hfx x (List.mem_of_getElem? hx) with ⟨n, rfl⟩ | ⟨b, rfl⟩ | rfl
          · have hk : KndOf H2 (.int n) .int := ⟨n, rfl⟩
            refine ⟨_, rfl, .int n, .ty "int", .type Knd.int.name, .type "int", Knd.int.isInt, rfl, .ty _, knd_ty hk, knd_int, _, rfl, iteF ⟨_, rfl, .int n, .ty "bool", .type Knd.int.name, .type "bool", Knd.int.isBool, rfl, .ty _, knd_ty hk, knd_bool, _, rfl, iteF ⟨_, rfl, _, _, rfl, rfl, _, rfl, ?_⟩⟩⟩
            by_cases n0 : 0 ≤ n
            · rw [decide_eq_true n0]
              refine iteT ⟨_, rfl, _, rfl, _, _, rfl, rfl, _, _, rfl, rfl, _, rfl, ?_⟩
              by_cases n1 : n ≤ (m : Int) + ((L : Int) + 1)
              · rw [decide_eq_true n1]
                refine iteF ⟨rfl, ⟨_, rfl⟩, ?_⟩
                show (betw (.int n) 0 ((m : Int) + L + 1) && true) = true
                rw [betw_int, decide_eq_true n0, decide_eq_true (by omega)]
                rfl
              · rw [decide_eq_false n1]
                refine iteT (bad ?_)
                rw [betw_int, decide_eq_false (show ¬ n ≤ (m : Int) + L + 1 by omega), Bool.and_false]
            · rw [decide_eq_false n0]
              refine iteF ⟨_, rfl, iteT (bad ?_)⟩
              rw [betw_int, decide_eq_false n0, Bool.false_and]
          · have hk : KndOf H2 (.bl b) .bool := ⟨b, rfl⟩
            exact ⟨_, rfl, .bl b, .ty "int", .type Knd.bool.name, .type "int", Knd.bool.isInt, rfl, .ty _, knd_ty hk, knd_int, _, rfl, iteF ⟨_, rfl, .bl b, .ty "bool", .type Knd.bool.name, .type "bool", Knd.bool.isBool, rfl, .ty _, knd_ty hk, knd_bool, _, rfl, iteT (iteT (bad rfl))⟩⟩
          · have hk : KndOf H2 .non .none := rfl
            exact ⟨_, rfl, .non, .ty "int", .type Knd.none.name, .type "int", Knd.none.isInt, rfl, .ty _, knd_ty hk, knd_int, _, rfl, iteT (iteT (bad rfl))⟩
        · obtain ⟨rfl, ⟨o5, rfl⟩, hall⟩ := pv
          rw [List.take_length] at hall
          obtain ⟨ns, rfl, hns⟩ := all_betw hall
          rw [barsV_some, toNs_int] at k
          cases ns with
          | nil => exact absurd (show ([] : List V).length < 2 by decide) hl
          | cons p l =>
            rw [List.length_map] at hl hsm
            have k' : ∀ H'', Ext H' H'' → Q (.bl (barsB d t L z lim m (p :: l))) H'' := k
            refine ⟨_, rfl, tr, _, rfl, .inr (SqT.of htr), _, _, rfl, rfl, ?_⟩
            refine ⟨_, rfl, by rw [List.length_map]; omega, by rw [List.length_map]; omega, ?_⟩
            have hpl : (prs (p :: l)).length = l.length := by
              unfold prs
              rw [List.length_zip]
              show min (l.length + 1) l.length = _
              omega
            rw [show ((((p :: l).map V.int).length : Int) - 1).toNat = l.length by rw [List.length_map, List.length_cons]; omega]
            refine for_range (n := l.length) (fun i σ' H2 => H2 = H' ∧ (∃ o5 o7, σ' = [some (.ref pl), some (.int lim), some (.int (m : Int)), some (.ref tr), some (.int ((L : Int) + 1)), o5, some (.int (((prs (p :: l)).take i).map (wS lim)).sum), o7, none, none]) ∧ (((prs (p :: l)).take i).all fun x => stepOk L m x.1 x.2) = true) ⟨rfl, ⟨_, _, rfl⟩, rfl⟩ (fun i σ' H2 hi pv => ?_) (fun σ' H2 pv => ?_)
            · obtain ⟨rfl, ⟨o5', o7, rfl⟩, hok⟩ := pv
              rw [Int.zero_add]
              obtain ⟨a, ha⟩ : ∃ a, (p :: l)[i]? = some a := ⟨_, List.getElem?_eq_getElem (by rw [List.length_cons]; omega)⟩
              obtain ⟨b, hb⟩ : ∃ b, l[i]? = some b := ⟨_, List.getElem?_eq_getElem hi⟩
              have hab : (prs (p :: l))[i]? = some (a, b) := by
                unfold prs
                rw [List.getElem?_zip_eq_some]
                exact ⟨ha, hb⟩
              have va : ((p :: l).map V.int)[i]? = some (.int a) := by rw [List.getElem?_map, ha]; rfl
              have vb : ((p :: l).map V.int)[i + 1]? = some (.int b) := by
                rw [List.getElem?_map, List.getElem?_cons_succ, hb]
                rfl
              have vb' : atI ((p :: l).map V.int) ((i : Int) + 1) = some (.int b) := atI_nat (j := i + 1) vb
              rw [take_snoc hab, List.map_append, List.sum_append, List.all_append, hok, Bool.true_and]
              refine ⟨_, rfl, _, rfl, _, _, rfl, rfl, tr, _, _, .int b, rfl, rfl, SqT.of htr, vb', _, rfl, _, rfl, tr, _, (i : Int), .int a, rfl, rfl, SqT.of htr, atI_nat va, _, _, rfl, rfl, rfl, _, rfl, ?_⟩
              rw [show decide (V.int b = V.int (a + 1)) = decide (b = a + 1) by simp]
              by_cases h1 : b = a + 1
              case' pos =>
                rw [decide_eq_true h1]
                refine iteT ⟨_, rfl, _, rfl, tr, _, (i : Int), .int a, rfl, rfl, SqT.of htr, atI_nat va, _, _, rfl, rfl, _, rfl, ?_⟩
                rcases Decidable.em (1 ≤ a) with h2 | h2
                case' inl =>
                  rw [decide_eq_true h2]
                  refine iteT ⟨_, rfl, _, _, rfl, rfl, _, rfl, ?_⟩
                  cases h3 : decide (a ≤ (m : Int))
                  case' true =>
                    rw [decide_eq_true_eq] at h3
                    have hsum : (((prs (p :: l)).take i).map (wS lim)).sum + ([(a, b)].map (wS lim)).sum = (((prs (p :: l)).take i).map (wS lim)).sum - 1 := by
                      show _ + (wS lim (a, b) + 0) = _
                      rw [show wS lim (a, b) = -1 from if_pos (show b > a by omega)]
                      omega
                    rw [hsum]
                    refine iteT ⟨_, rfl, _, _, rfl, rfl, rfl, ⟨o5', some (.int (i : Int)), rfl⟩, ?_⟩
                    · show (stepOk L m a b && true) = true
                      unfold stepOk
                      rw [if_pos (by omega), decide_eq_true h1, decide_eq_true h2, decide_eq_true h3]
                      rfl
                  case' false =>
                    rw [decide_eq_false_iff_not] at h3
                    refine iteF ?_
                    have hA : ¬ (b = a + 1 ∧ 1 ≤ a ∧ a ≤ (m : Int)) := fun z => h3 z.2.2
                case' inr =>
                  rw [decide_eq_false h2]
                  refine iteF ⟨_, rfl, iteF ?_⟩
                  have hA : ¬ (b = a + 1 ∧ 1 ≤ a ∧ a ≤ (m : Int)) := fun z => h2 z.2.1
              case' neg =>
                rw [decide_eq_false h1]
                refine iteF (iteF ?_)
                have hA : ¬ (b = a + 1 ∧ 1 ≤ a ∧ a ≤ (m : Int)) := fun z => h1 z.1
              all_goals (
                refine ⟨_, rfl, _, rfl, _, _, rfl, rfl, tr, _, _, .int b, rfl, rfl, SqT.of htr, vb', _, rfl, _, rfl, tr, _, (i : Int), .int a, rfl, rfl, SqT.of htr, atI_nat va, _, rfl, _, _, rfl, rfl, rfl, _, rfl, ?_⟩
                rw [show decide (V.int b = V.int (a - ((L : Int) + 1))) = decide (b = a - ((L : Int) + 1)) by simp]
                by_cases hB : b = a - ((L : Int) + 1)
                · rw [decide_eq_true hB]
                  have hsum : (((prs (p :: l)).take i).map (wS lim)).sum + ([(a, b)].map (wS lim)).sum = (((prs (p :: l)).take i).map (wS lim)).sum + lim := by
                    show _ + (wS lim (a, b) + 0) = _
                    rw [show wS lim (a, b) = lim from if_neg (show ¬ b > a by omega)]
                    omega
                  rw [hsum]
                  refine iteT ⟨_, rfl, _, rfl, _, _, rfl, rfl, rfl, ⟨o5', some (.int (i : Int)), rfl⟩, ?_⟩
                  show (stepOk L m a b && true) = true
                  unfold stepOk
                  rw [if_neg (by omega), decide_eq_true (show b = a - L - 1 by omega)]
                  rfl
                · rw [decide_eq_false hB]
                  have hst : stepOk L m a b = false := by
                    unfold stepOk
                    by_cases g : b > a
                    · rw [if_pos g, Bool.and_eq_false_iff, Bool.and_eq_false_iff, decide_eq_false_iff_not, decide_eq_false_iff_not, decide_eq_false_iff_not]
                      omega
                    · rw [if_neg g, decide_eq_false_iff_not]
                      omega
                  have hok2 : ok2 L m (p :: l) = false := by
                    rw [ok2_prs]
                    cases hc : (prs (p :: l)).all fun x => stepOk L m x.1 x.2 with
                    | false => rfl
                    | true =>
                      have := List.all_eq_true.mp hc (a, b) (List.mem_of_getElem? hab)
                      rw [hst] at this
                      cases this
                  have q := k' _ Ext.rfl'
                  rw [barsB_chain, show chainB L m (p :: l) = false by
                    show (((p :: l).all (inR L m)) && (_ && (_ && ok2 L m (p :: l)))) = false
                    rw [hok2, Bool.and_false, Bool.and_false, Bool.and_false], Bool.false_and] at q
                  exact iteF q)
            · obtain ⟨rfl, ⟨o5', o7, rfl⟩, hok⟩ := pv
              rw [List.take_of_length_le (by rw [hpl]; exact Nat.le_refl _)] at hok ⊢
              rw [← cost_sum]
              rw [← ok2_prs] at hok
              have hin : ∀ x ∈ p :: l, 0 ≤ x := fun x hx => by
                have := List.all_eq_true.mp hns x hx
                unfold inR at this
                rw [Bool.and_eq_true, decide_eq_true_eq] at this
                exact this.1
              have hlast : ((p :: l).map V.int).getLast? = some (.int (lastI p l)) := by
                rw [List.getLast?_map, List.getLast?_eq_some_getLast (List.cons_ne_nil p l)]
                rfl
              have hlm : lastI p l ∈ p :: l := List.getLast_mem _
              have hcb : chainB L m (p :: l) = (!(decide (1 < p) && decide (p ≤ (m : Int))) && (!(decide (1 ≤ lastI p l) && decide (lastI p l ≤ (m : Int))))) := by
                show (((p :: l).all (inR L m)) && (_ && (_ && ok2 L m (p :: l)))) = _
                rw [hns, hok, Bool.true_and, Bool.and_true]
              have no : chainB L m (p :: l) = false → Q (.bl false) H2 := fun h => by
                have q := k' _ Ext.rfl'
                rw [barsB_chain, h, Bool.false_and] at q
                exact q
              refine ⟨_, rfl, _, rfl, tr, _, ((0 : Nat) : Int), .int p, rfl, rfl, SqT.of htr, atI_nat rfl, _, rfl, pl, d, t, L, z, m, p, rfl, hP, sz, hin p List.mem_cons_self, ?_⟩
              refine ⟨_, rfl, _, rfl, _, rfl, tr, _, -1, .int (lastI p l), rfl, rfl, SqT.of htr, last_at hlast, _, rfl, pl, d, t, L, z, m, lastI p l, rfl, hP, sz, hin _ hlm, _, _, rfl, ?_⟩
              have h0l := hin _ hlm
              by_cases c1 : 1 < p ∧ p ≤ (m : Int)
              · have e1 : stV d t z m p = .non := if_pos c1
                rw [e1]
                refine ⟨_, rfl, rfl, _, rfl, iteT (iteT (no ?_))⟩
                rw [hcb, decide_eq_true c1.1, decide_eq_true c1.2]
                rfl
              · have e1 : stV d t z m p = .int (kn d t z m p) := if_neg c1
                rw [e1]
                refine ⟨_, rfl, rfl, _, rfl, iteF ?_⟩
                by_cases c2 : 1 ≤ lastI p l ∧ lastI p l ≤ (m : Int)
                · have hno : chainB L m (p :: l) = false := by
                    rw [hcb, decide_eq_true c2.1, decide_eq_true c2.2]
                    exact Bool.and_false _
                  by_cases c3 : 1 < lastI p l ∧ lastI p l ≤ (m : Int)
                  · have e2 : stV d t z m (lastI p l) = .non := if_pos c3
                    rw [e2]
                    exact ⟨_, rfl, rfl, _, rfl, iteT (iteT (no hno))⟩
                  · have e2 : stV d t z m (lastI p l) = .int (kn d t z m (lastI p l)) := if_neg c3
                    rw [e2]
                    refine ⟨_, rfl, rfl, _, rfl, iteF ⟨_, rfl, _, rfl, tr, _, -1, .int (lastI p l), rfl, rfl, SqT.of htr, last_at hlast, rfl, _, rfl, ?_⟩⟩
                    rw [show (!decide (V.int (lastI p l) = V.int 0)) = true by rw [decide_eq_false (fun e => by injection e with e; omega)]; rfl]
                    refine iteT ⟨_, rfl, _, rfl, tr, _, -1, .int (lastI p l), rfl, rfl, SqT.of htr, last_at hlast, _, rfl, _, _, rfl, rfl, _, rfl, ?_⟩
                    rw [decide_eq_true c2.2]
                    exact iteT (no hno)
                · have e2 : stV d t z m (lastI p l) = .int (kn d t z m (lastI p l)) := if_neg (by omega)
                  rw [e2]
                  have hyes : chainB L m (p :: l) = true := by
                    rw [hcb]
                    have a1 : (decide (1 < p) && decide (p ≤ (m : Int))) = false := by
                      rw [Bool.and_eq_false_iff, decide_eq_false_iff_not, decide_eq_false_iff_not]
                      omega
                    have a2 : (decide (1 ≤ lastI p l) && decide (lastI p l ≤ (m : Int))) = false := by
                      rw [Bool.and_eq_false_iff, decide_eq_false_iff_not, decide_eq_false_iff_not]
                      omega
                    rw [a1, a2]
                    rfl
                  have q := k' _ Ext.rfl'
                  rw [barsB_chain, hyes, Bool.true_and] at q
                  refine ⟨_, rfl, rfl, _, rfl, iteF ⟨_, rfl, _, rfl, tr, _, -1, .int (lastI p l), rfl, rfl, SqT.of htr, last_at hlast, rfl, _, rfl, ?_⟩⟩
                  by_cases hz : lastI p l = 0
                  · rw [show (!decide (V.int (lastI p l) = V.int 0)) = false by rw [hz]; rfl]
                    exact iteF (iteF ⟨_, rfl, _, rfl, _, rfl, _, _, rfl, rfl, _, _, rfl, rfl, q⟩)
                  · rw [show (!decide (V.int (lastI p l) = V.int 0)) = true by rw [decide_eq_false (fun e => hz (by injection e))]; rfl]
                    refine iteT ⟨_, rfl, _, rfl, tr, _, -1, .int (lastI p l), rfl, rfl, SqT.of htr, last_at hlast, _, rfl, _, _, rfl, rfl, _, rfl, ?_⟩
                    rw [decide_eq_false (show ¬ lastI p l ≤ (m : Int) by omega)]
                    exact iteF ⟨_, rfl, _, rfl, _, rfl, _, _, rfl, rfl, _, _, rfl, rfl, q⟩
end
end K33

set_option Elab.async false
set_option maxRecDepth 100000
set_option maxHeartbeats 4000000
namespace K33
open PySem PySem.Spec PyProof.Rows L2
theorem cut_lo {xs : List V} {j : Nat} : (cutV xs none (some (j : Int))).length ≤ j := by
  unfold cutV
  rw [List.length_take, HT.sIx_none, HT.sIx_nat]
  omega
theorem cut_hi {xs : List V} {j : Nat} : (cutV xs (some ((j : Int) + 1)) none).length ≤ xs.length - (j + 1) := by
  show (cutV xs (some ((j + 1 : Nat) : Int)) none).length ≤ _
  unfold cutV
  rw [List.length_take, List.length_drop, HT.sIx_nat]
  omega
theorem cut_m1 {xs : List V} : (cutV xs (some (-1)) none).length ≤ 1 := by
  unfold cutV
  rw [List.length_take, List.length_drop]
  show min _ (xs.length - (if (-1 : Int) < 0 then ((-1 : Int) + (xs.length : Int)).toNat else min ((-1 : Int).toNat) xs.length)) ≤ 1
  rw [if_pos (by decide)]
  omega
theorem cut_fx {xs : List V} {lo hi : Option Int} (h : ∀ x ∈ xs, Fx x) : ∀ x ∈ cutV xs lo hi, Fx x := fun x hx => h x (List.mem_of_mem_drop (List.mem_of_mem_take hx))
theorem cat_fx {xs ys : List V} (h : ∀ x ∈ xs, Fx x) (g : ∀ x ∈ ys, Fx x) : ∀ x ∈ xs ++ ys, Fx x := fun x hx => (List.mem_append.mp hx).elim (h x) (g x)
def TvAt (H : Hp) (v : V) : Option (List Int) → Prop
  | none => v = .non
  | some C => ∃ tr, v = .ref tr ∧ H tr = some (.tup (C.map V.int)) ∧ 1 ≤ C.length ∧ C.length ≤ 900
section
variable {P : Program} {w : World} {K : PySem.W.Frag} {mg : Str → Option Value} {base : Heap} {A : Ad}
def spLChain (K : PySem.W.Frag) : Sp := fun vs H Q _ => ∃ (st pl : Addr) (d t : Int) (L : Nat) (z : Int) (m : Nat) (v : V) (Co : Option (List Int)), vs = [.ref st, .ref pl, .int (m : Int), v] ∧ PoolD H st ∧ PlainAt H pl d t (L : Int) z ∧ pl ≠ st ∧ L ≤ 3 ∧ m ≤ 500 ∧
  TvAt H v Co ∧
  ∀ v' xo H', CvAt H' v' xo → PoolD H' st → ExtM st H H' → Q v' H'
theorem ok_lChain {f : Addr} {fd : FuncData} (F : Fun K "_law_chain" "_law_chain" s__law_chain f fd) (T : Txt K mg A) (O__law_take : Own P w K mg base CX0 "_law_take" 1 pm__law_take spTake) (O__law_one : Own P w K mg base CX0 "_law_one" 2 pm__law_one spOne) : FnOk P w K mg base CX0 3 f fd pm__law_chain (spLChain K) := by
  refine F.ok sc__law_chain (fun vs H Q E h => ?_) (fun cdv A' outer s H vs Q E hr h => ?_)
  · obtain ⟨_, _, _, _, _, _, _, _, _, rfl, _⟩ := h
    rfl
  · obtain ⟨st, pl, d, t, L, z, m, v, Co, rfl, hst, hP, nps, l3, m5, hv, k⟩ := h
    refine ⟨_, pss_cons (ps_if (PW.pt (pw_and (pt_cmpR op_notN (pv 3) (pe_non) (nomark _)) (pw_and1 (pt_cmpR op_eq (pe_own O__law_take (hr.mono (by decide)) pass0 (pa_cons (pv 0) (pa_cons (pe_int) pa_nil))) (pe_int) (nomark _))))) (pss_cons (ps_set (i := 4) sc__law_chain.nd rfl (Or.inl rfl) (pe_own O__law_take (hr.mono (by decide)) pass0 (pa_cons (pv 0) (pa_cons (pe_callB call_len_seq (by rfl) T.n_len (by decide +kernel) (pa_cons (pv 3) pa_nil)) pa_nil))))
      (pss_cons (ps_set (i := 5) sc__law_chain.nd rfl (Or.inl rfl) (pe_own O__law_one (hr.mono (by decide)) pass0 (pa_cons (pv 0) (pa_cons (pe_lst (pa_cons (pe_op op_add (pe_ix ix_tup (pv 3) (pv 4) (fun _ _ => rfl)) (pe_int)) (pa_cons (pe_op op_sub (pe_ix ix_tup (pv 3) (pv 4) (fun _ _ => rfl)) (pe_int)) (pa_cons (pe_bl) (pa_cons (pe_non) (pa_cons (pe_int) (pa_cons (pe_op op_add (pv 2) (pe_int)) pa_nil))))))) pa_nil))))
      (pss_one (ps_ret (pe_own O__law_one (hr.mono (by decide)) pass0 (pa_cons (pv 0) (pa_cons (pe_lst (pa_cons (pe_op op_catE (pe_slice sl_tupE (pv 3) po_none (po_some (pv 4))) (pe_slice sl_tupE (pv 3) (po_some (pe_op op_add (pv 4) (pe_int))) po_none)) (pa_cons (pe_op op_catE (pe_op op_catE (pe_slice sl_tupE (pv 3) po_none (po_some (pv 4))) (pe_tup (pa_cons (pv 5) pa_nil))) (pe_slice sl_tupE (pv 3) (po_some (pe_op op_add (pv 4) (pe_int))) po_none)) (pa_cons (pe_callTy call_list_of (by rfl) T.n_list (by decide +kernel) (pa_cons (pv 3) pa_nil)) (pa_cons (pe_op op_catE (pv 3) (pe_slice sl_tupE (pv 3) (po_some (pe_un un_neg (pe_int))) po_none)) pa_nil))))) pa_nil))))))) (pss_nil))
      (pss_cons (ps_par (i := 6) (j := 7) (by rfl) sc__law_chain.nd rfl rfl (by decide) rfl rfl (pa_cons (pe_own O__law_take (hr.mono (by decide)) pass0 (pa_cons (pv 0) (pa_cons (pe_op op_add (pe_op op_add (pv 2) (pe_ix ix_list (pv 1) (pe_int) (fun _ _ => rfl))) (pe_int)) pa_nil))) (pa_cons (pe_lst (pa_nil)) pa_nil)) (by rfl))
      (pss_cons (ps_for PassesOwn.never rfl (pi_range1 rfl T.n_range (pa_cons (pe_op op_add (pe_int) (pe_own O__law_take (hr.mono (by decide)) pass0 (pa_cons (pv 0) (pa_cons (pe_int) pa_nil)))) pa_nil)) (pg_name (i := 8) sc__law_chain.nd rfl (Or.inl rfl)) (pss_cons (ps_expr (pe_bm PySem.F.plainAttrs_list PySem.F.slot_list_append PySem.F.type_list_append mt_append (pv 7) (pa_cons (pv 6) pa_nil)))
      (pss_one (ps_set (i := 6) sc__law_chain.nd rfl (Or.inl rfl) (pe_ifExp (pt_cmpR op_eq (pe_own O__law_take (hr.mono (by decide)) pass0 (pa_cons (pv 0) (pa_cons (pe_int) pa_nil))) (pe_int) (nomark _)) (pe_op op_add (pv 6) (pe_int)) (pe_op op_sub (pe_op op_sub (pv 6) (pe_ix ix_list (pv 1) (pe_int) (fun _ _ => rfl))) (pe_int)))))))
      (pss_one (ps_ret (pe_callTy call_tuple_of (by rfl) T.n_tuple (by decide +kernel) (pa_cons (pv 7) pa_nil)))))), ?_⟩
    have hP' : H pl = some (.lst [.int d, .int t, .int (L : Int), .int z]) := hP
    cases Co
    case' none =>
      have hv' : v = .non := hv
      subst hv'
      have st1 := hst
      have x1 : ExtM st H H := ExtM.rfl'
      refine ⟨_, rfl, rfl, _, rfl, iteF (iteF ?_)⟩
    case' some C =>
      obtain ⟨tr, rfl, htr, hl1, hl2⟩ := hv
      refine ⟨_, rfl, rfl, _, rfl, iteT ⟨_, rfl, st, 2, rfl, hst, by omega, by omega, fun n H1 n0 n1 st1 x1 => ⟨rfl, _, rfl, ?_⟩⟩⟩
      rcases Decidable.em (n = 0) with h0 | h0
      case' inl =>
        subst h0
        refine iteT ?_
        have htr1 := x1 tr _ (fun e => by obtain ⟨a, b, q, _⟩ := hst; rw [← e, htr] at q; cases q) htr
        have nts : tr ≠ st := fun e => by obtain ⟨a, b, q, _⟩ := hst; rw [← e, htr] at q; cases q
        refine ⟨_, rfl, _, rfl, tr, _, rfl, .inr (SqT.of htr1), st, _, rfl, st1, by rw [List.length_map]; omega, by rw [List.length_map]; omega, fun n4 H2 n40 n41 st2 x2 => ?_⟩
        rw [List.length_map] at n41
        obtain ⟨j, rfl⟩ := Int.eq_ofNat_of_zero_le n40
        have hj : j < C.length := by omega
        have vj : (C.map V.int)[j]? = some (.int C[j]) := by rw [List.getElem?_map, List.getElem?_eq_getElem hj]; rfl
        generalize C[j] = c at vj
        have htr2 := x2 tr _ nts htr1
        refine ⟨_, rfl, _, rfl, _, rfl, tr, _, (j : Int), .int c, rfl, rfl, SqT.of htr2, atI_nat vj, _, _, rfl, rfl, _, rfl, _, rfl, tr, _, (j : Int), .int c, rfl, rfl, SqT.of htr2, atI_nat vj, _, _, rfl, rfl, _, rfl, _, _, rfl, rfl, by show 6 ≤ sizeLine; decide, fun Lo hLo => ?_⟩
        have e3 := Ext.upd (o := .lst [.int (c + 1), .int (c - 1), .bl true, .non, .int 0, .int ((m : Int) + 1)]) hLo
        refine ⟨st, Lo, _, rfl, st2.ext e3, upd_same, st2.new hLo, by show 1 ≤ 6; decide, by show 6 ≤ 1000; decide, fun io od H3 hio st3 x3 => ?_⟩
        have hod : Fx od := by
          rcases io with _ | _ | _ | _ | _ | _ | io <;> cases hio
          · exact .inl ⟨_, rfl⟩
          · exact .inl ⟨_, rfl⟩
          · exact .inr (.inl ⟨_, rfl⟩)
          · exact .inr (.inr rfl)
          · exact .inl ⟨_, rfl⟩
          · exact .inl ⟨_, rfl⟩
        have x03 := ((x1.trans x2).trans (Ext.m e3)).trans x3
        have htr3 := x03 tr _ nts htr
        have hcl : ∀ lo hi, (cutV (C.map V.int) lo hi).length ≤ 900 := fun lo hi => by
          have := cutV_length (C.map V.int) lo hi
          rw [List.length_map] at this
          omega
        refine ⟨_, rfl, _, rfl, _, rfl, _, rfl, tr, _, rfl, htr3, fun p1 H4 e4 hp1 => ?_⟩
        refine ⟨_, rfl, _, rfl, _, _, rfl, rfl, _, rfl, tr, _, rfl, e4 _ _ htr3, fun p2 H5 e5 hp2 => ?_⟩
        refine ⟨p1, p2, _, _, rfl, rfl, e5 _ _ hp1, hp2, Nat.le_trans (show _ ≤ 2000 by have := hcl none (some (j : Int)); have := hcl (some ((j : Int) + 1)) none; omega) (by decide), fun p3 H6 e6 hp3 => ?_⟩
        have e36 := (e4.trans e5).trans e6
        -- with the odd one
        refine ⟨_, rfl, _, rfl, _, rfl, tr, _, rfl, e36 _ _ htr3, fun p4 H7 e7 hp4 => ?_⟩
        refine ⟨_, rfl, by show 1 ≤ sizeLine; decide, fun t1 ht1 => ?_⟩
        have e8 := Ext.upd (o := .tup [od]) ht1
        refine ⟨p4, t1, _, _, rfl, rfl, e8 _ _ hp4, upd_same, Nat.le_trans (show _ ≤ 2000 by have := hcl none (some (j : Int)); show _ + 1 ≤ 2000; omega) (by decide), fun p5 H9 e9 hp5 => ?_⟩
        have e39 := ((e36.trans e7).trans e8).trans e9
        refine ⟨_, rfl, _, rfl, _, _, rfl, rfl, _, rfl, tr, _, rfl, e39 _ _ htr3, fun p6 H10 e10 hp6 => ?_⟩
        refine ⟨p5, p6, _, _, rfl, rfl, e10 _ _ hp5, hp6, Nat.le_trans (show _ ≤ 3000 by have := hcl none (some (j : Int)); have := hcl (some ((j : Int) + 1)) none; rw [List.length_append]; show (_ + 1) + _ ≤ 3000; omega) (by decide), fun p7 H11 e11 hp7 => ?_⟩
        have e311 := (e39.trans e10).trans e11
        -- a list
        refine ⟨_, rfl, tr, _, rfl, .inr (SqT.of (e311 _ _ htr3)), fun Lc hLc => ?_⟩
        have nLc := (st3.ext e311).new hLc
        have e12 := Ext.upd (o := .lst (C.map V.int)) hLc
        have e312 := e311.trans e12
        have hLc2 : (upd H11 Lc (.lst (C.map V.int))) Lc = some (.lst (C.map V.int)) := upd_same
        generalize upd H11 Lc (.lst (C.map V.int)) = H12 at e12 e312 hLc2 ⊢
        -- its last twice
        refine ⟨_, rfl, _, rfl, _, rfl, _, rfl, tr, _, rfl, e312 _ _ htr3, fun p8 H13 e13 hp8 => ?_⟩
        refine ⟨tr, p8, _, _, rfl, rfl, e13 _ _ (e312 _ _ htr3), hp8, Nat.le_trans (show _ ≤ 2000 by have := hcl (some (-1)) none; rw [List.length_map]; omega) (by decide), fun p9 H14 e14 hp9 => ⟨by show 4 ≤ sizeLine; decide, fun Ll hLl => ?_⟩⟩
        have e15 := Ext.upd (o := .lst [V.ref p3, .ref p7, .ref Lc, .ref p9]) hLl
        have e1215 := (e13.trans e14).trans e15
        have e315 := e312.trans e1215
        have st15 := st3.ext e315
        refine ⟨st, Ll, _, rfl, st15, upd_same, (st3.ext ((e312.trans e13).trans e14)).new hLl, by show 1 ≤ 4; decide, by show 4 ≤ 1000; decide, fun iv vv H16 hiv st16 x16 => ?_⟩
        have xall := (x03.trans (Ext.m e315)).trans x16
        have stay : ∀ (q : Addr) (o : HO), (∀ l, o ≠ .lst l) → (upd H14 Ll (.lst [V.ref p3, .ref p7, .ref Lc, .ref p9])) q = some o → H16 q = some o := fun q o hne h => x16 q o (fun e => by obtain ⟨a, b, z1, _⟩ := st15; rw [e, z1] at h; exact hne _ (Option.some.inj h).symm) h
        have f1 : ∀ lo hi, ∀ x ∈ cutV (C.map V.int) lo hi, Fx x := fun lo hi => cut_fx Fx.ints
        have fod : ∀ x ∈ [od], Fx x := fun x hx => by rw [List.mem_singleton.mp hx]; exact hod
        rcases iv with _ | _ | _ | _ | iv
        · cases hiv
          refine k _ (some _) H16 ⟨p3, rfl, stay _ _ (fun _ z => nomatch z) (e1215 _ _ (e12 _ _ (((e7.trans e8).trans e9).trans (e10.trans e11) _ _ hp3))), cat_fx (f1 _ _) (f1 _ _), ?_⟩ st16 xall
          have c1 := cut_lo (xs := C.map V.int) (j := j)
          have c2 := cut_hi (xs := C.map V.int) (j := j)
          rw [List.length_map] at c2
          rw [List.length_append]
          omega
        · cases hiv
          refine k _ (some _) H16 ⟨p7, rfl, stay _ _ (fun _ z => nomatch z) (e1215 _ _ (e12 _ _ hp7)), cat_fx (cat_fx (f1 _ _) fod) (f1 _ _), ?_⟩ st16 xall
          have c1 := cut_lo (xs := C.map V.int) (j := j)
          have c2 := cut_hi (xs := C.map V.int) (j := j)
          rw [List.length_map] at c2
          rw [List.length_append, List.length_append]
          show _ + 1 + _ ≤ 1000
          omega
        · cases hiv
          refine k _ none H16 ⟨.list, ⟨Lc, C.map V.int, rfl, ?_⟩, rfl⟩ st16 xall
          exact x16 Lc _ nLc (e1215 _ _ hLc2)
        · cases hiv
          refine k _ (some _) H16 ⟨p9, rfl, stay _ _ (fun _ z => nomatch z) (e15 _ _ hp9), cat_fx Fx.ints (f1 _ _), ?_⟩ st16 xall
          have c1 := cut_m1 (xs := C.map V.int)
          rw [List.length_append, List.length_map]
          omega
        · cases hiv
      case' inr =>
        rw [show decide (V.int n = V.int 0) = false from decide_eq_false fun e => h0 (by injection e)]
        refine iteF ?_
    all_goals (
      have hP1 := x1 pl _ nps hP'
      refine ⟨_, rfl, _, rfl, _, rfl, pl, _, 2, .int (L : Int), rfl, rfl, SqL.of hP1, rfl, _, _, rfl, rfl, _, _, rfl, rfl, st, _, rfl, st1, by omega, by omega, fun n2 H2 n20 n21 st2 x2 => ⟨by show 0 ≤ sizeLine; decide, fun D hD => ⟨_, _, rfl, ?_⟩⟩⟩
      have e3 := Ext.upd (o := .lst []) hD
      have nDs := st2.new hD
      have hD0 : H D = none := (x1.trans x2).none nDs hD
      have hD3 : (upd H2 D (.lst [])) D = some (.lst (([] : List Int).map V.int)) := upd_same
      refine ⟨_, rfl, st, 6, rfl, st2.ext e3, by omega, by omega, fun n3 H4 n30 n31 st4 x4 => ⟨_, _, rfl, rfl, 2 + n3, rfl, by omega, by omega, ?_⟩⟩
      have x14 := ((x1.trans x2).trans (Ext.m e3)).trans x4
      refine for_range (fun i σ' H' => ∃ (pc : Int) (C : List Int) (o4 o5 o8 : Option V) (vv : V), σ' = [some (.ref st), some (.ref pl), some (.int (m : Int)), some vv, o4, o5, some (.int pc), some (.ref D), o8] ∧ H' D = some (.lst (C.map V.int)) ∧ C.length = i ∧ PoolD H' st ∧ ExtM st H H') ⟨_, [], _, _, _, _, rfl, x4 _ _ nDs hD3, rfl, st4, x14⟩ (fun i σ' H5 hi pv => ?_) (fun σ' H5 pv => ?_)
      · obtain ⟨pc, C', o4, o5, o8, vv, rfl, hD5, hlen, st5, x5⟩ := pv
        refine ⟨_, rfl, .inl ⟨rfl, _, SqL.of hD5⟩, _, rfl, D, _, _, rfl, rfl, hD5, Nat.lt_of_le_of_lt (show _ ≤ 1000 by rw [List.length_map]; omega) (by decide), ?_⟩
        have hD6 : upd H5 D (.lst (C'.map V.int ++ [V.int pc])) D = some (.lst ((C' ++ [pc]).map V.int)) := by
          rw [upd_same, List.map_append]
          rfl
        have st6 : PoolD (upd H5 D (.lst (C'.map V.int ++ [V.int pc]))) st := by
          obtain ⟨a, b, h1, h2⟩ := st5
          exact ⟨a, b, by rw [upd_ne nDs.symm]; exact h1, h2⟩
        have x6 : ExtM st H (upd H5 D (.lst (C'.map V.int ++ [V.int pc]))) := fun y o hy ho => by
          rw [upd_ne (ne_of_none ho hD0)]
          exact x5 y o hy ho
        generalize upd H5 D (.lst (C'.map V.int ++ [V.int pc])) = H6 at hD6 st6 x6 ⊢
        refine ⟨_, rfl, st, 2, rfl, st6, by omega, by omega, fun n7 H7 n70 n71 st7 x7 => ⟨rfl, _, rfl, ?_⟩⟩
        have x67 := x6.trans x7
        have hP7 := x67 pl _ nps hP'
        have hD7 := x7 D _ nDs hD6
        have hl7 : (C' ++ [pc]).length = i + 1 := by rw [List.length_append, hlen]; rfl
        cases hb : decide (V.int n7 = V.int 0) with
        | true => exact iteT ⟨_, rfl, _, _, rfl, rfl, _, C' ++ [pc], _, _, _, _, rfl, hD7, hl7, st7, x67⟩
        | false => exact iteF ⟨_, rfl, _, rfl, pl, _, 2, .int (L : Int), rfl, rfl, SqL.of hP7, rfl, _, _, rfl, rfl, _, _, rfl, rfl, _, C' ++ [pc], _, _, _, _, rfl, hD7, hl7, st7, x67⟩
      · obtain ⟨pc, C', o4, o5, o8, vv, rfl, hD5, hlen, st5, x5⟩ := pv
        refine ⟨_, rfl, D, _, rfl, .inl ⟨SqL.of hD5, fun t2 ht2 => ?_⟩⟩
        have e6 := Ext.upd (o := .tup (C'.map V.int)) ht2
        exact k (.ref t2) (some (C'.map V.int)) _ ⟨t2, rfl, upd_same, Fx.ints, by rw [List.length_map]; omega⟩ (st5.ext e6) (x5.trans (Ext.m e6)))
end
end K33

set_option Elab.async false
set_option maxRecDepth 100000
set_option maxHeartbeats 4000000
namespace K33
open PySem PySem.Spec PyProof.Rows L2
def tsD (SS : List (List Int)) : List PyData := SS.map fun S => .tuple ((S.map V.int).map pd)
theorem TAll.dp {K : PySem.W.Frag} {H : Hp} : ∀ {vs : List V} {SS : List (List Int)}, TAll H vs SS → DpAll K H vs (tsD SS)
  | [], [], _ => .nil
  | _ :: _, _ :: _, ⟨⟨a, h1, h2⟩, h⟩ => .cons (by rw [h1]; exact .tup (SqT.of h2) (dp_all fl_ints)) (TAll.dp h)
theorem tsD_lay : ∀ (SS : List (List Int)), PyData.canLayAll0 (tsD SS) = true ∧ PyData.depthAll (tsD SS) ≤ 1
  | [] => ⟨rfl, Nat.zero_le _⟩
  | S :: SS => by
    obtain ⟨a1, b1⟩ := lay_all (vs := S.map V.int) fl_ints
    obtain ⟨a2, b2⟩ := tsD_lay SS
    refine ⟨?_, ?_⟩
    · show (PyData.canLayAll0 ((S.map V.int).map pd) && PyData.canLayAll0 (tsD SS)) = true
      rw [a1, a2]
      rfl
    · show max (PyData.depthAll ((S.map V.int).map pd) + 1) (PyData.depthAll (tsD SS)) ≤ 1
      rw [b1]
      omega
theorem tsD_shp (SS : List (List Int)) : SeqAt.shaped (.list (tsD SS)) = true := by
  obtain ⟨a, b⟩ := tsD_lay SS
  show (PyData.canLayAll0 (tsD SS) && decide (PyData.depthAll (tsD SS) + 1 ≤ 64)) = true
  rw [a, decide_eq_true (by omega)]
  rfl
theorem tsD_nil (SS : List (List Int)) : (!PyData.eqv (.list (tsD SS)) (.list [])) = !decide (SS = []) := by
  cases SS with
  | nil => rfl
  | cons S l => rfl
section
variable {P : Program} {w : World} {K : PySem.W.Frag} {mg : Str → Option Value} {base : Heap} {A : Ad}
def spDoes (K : PySem.W.Frag) : Sp := fun vs H Q _ => ∃ (pl : Addr) (lim d t : Int) (L : Nat) (z : Int) (m : Nat), vs = [.ref pl, .int lim, .int (m : Int)] ∧ PlainAt H pl d t (L : Int) z ∧ Sizes d t L z ∧ z ≤ 8 ∧ (m : Int) ≤ z - 1 ∧ ∀ b H', Ext H H' → (b = true ↔ Ok d t L z lim m) → Q (.bl b) H'
theorem ok_does {f : Addr} {fd : FuncData} (F : Fun K "_law_does" "_law_does" s__law_does f fd) (T : Txt K mg A) (O__law_subsets : Own P w K mg base CX0 "_law_subsets" 1 pm__law_subsets spSubsets) (O__law_gap : Own P w K mg base CX0 "_law_gap" 2 pm__law_gap (spLawGap K)) : FnOk P w K mg base CX0 3 f fd pm__law_does (spDoes K) := by
  refine F.ok sc__law_does (fun vs H Q E h => ?_) (fun cdv A' outer s H vs Q E hr h => ?_)
  · obtain ⟨_, _, _, _, _, _, _, rfl, _⟩ := h
    rfl
  · obtain ⟨pl, lim, d, t, L, z, m, rfl, hpl, Z, z8, hm, k⟩ := h
    refine ⟨_, pss_one (ps_ret (pe_cmpR (op_neD hr.units) (pe_lc (own := [("_law_signs", 3)]) (g := gName 3) (by rfl) sc__law_does.nd (pi_list (pe_own O__law_subsets (hr.mono (by decide)) pass0 (pa_cons (pe_ix ix_list (pv 0) (pe_int) (fun _ _ => rfl)) (pa_cons (pv 2) pa_nil)))) (blkOk_by (own := [("_law_signs", 3)]) (N := nm__law_does) (sc := defScope s__law_does) (by decide +kernel)) (fun _ _ _ _ _ => pg_name (i := 3) sc__law_does.nd rfl (Or.inl rfl)) (fun s1 H1 C1 cl fp => pts_one (pt_cmpR op_le (pe_own O__law_gap (hr.mono (by decide)) pass0 (pa_cons (pv 0) (pa_cons (pv 3) pa_nil))) (pv 1) (nomark _))) (fun s1 H1 C1 cl fp => pv 3)) (pe_lst (pa_nil)) (nomark _))), ?_⟩
    have hz1 := Z.z1
    refine ⟨_, rfl, pl, _, 3, .int z, rfl, rfl, SqL.of hpl, rfl, _, rfl, z, m, rfl, hz1, z8, by omega, fun r ws H1 hr0 e1 hr1 ht => ⟨r, rfl, ⟨_, SqL.of hr1⟩, fun D hD => ?_⟩⟩
    have hwl : ws.length ≤ 1000000 := by
      rw [TAll.len ht]
      exact Nat.le_trans (subs_len z8 m) (pow7 (by omega))
    refine lc_list (xs := ws) (fun j H2 => ∃ us, Ext H1 H2 ∧ H2 D = some (.lst us) ∧ us.length ≤ j ∧ TAll H2 us (((subs z m).take j).filter (doB d t L z lim))) ⟨[], Ext.upd hD, upd_same, Nat.le_refl _, trivial⟩ (fun j H2 _ pv => ?_) (fun j x H2 hx pv => ?_) (fun H2 pv => ?_)
    · obtain ⟨us, e2, _⟩ := pv
      exact SqL.of (e2 _ _ hr1)
    · obtain ⟨us, e2, hD2, hul, hu⟩ := pv
      obtain ⟨a, S, rfl, ha, hS⟩ := TAll.get ht hx
      have hj : j < ws.length := (List.getElem?_eq_some_iff.mp hx).1
      have hSl : S.length = m := (mem_subs.mp (List.mem_of_getElem? hS)).1
      refine ⟨rfl, _, rfl, _, rfl, pl, a, d, t, L, z, S, rfl, (e1.trans e2) _ _ hpl, Z, .inr (SqT.of (e2 _ _ ha)), by omega, fun g H3 e3 hg => ⟨_, rfl, _, _, rfl, rfl, _, rfl, ?_⟩⟩
      have hb : doB d t L z lim S = decide (g ≤ lim) := by
        rw [Bool.eq_iff_iff, doB_iff, decide_eq_true_eq]
        exact gap_do hg
      have e23 := e2.trans e3
      by_cases hm : g ≤ lim
      · rw [decide_eq_true hm] at hb ⊢
        refine iteT ⟨_, rfl, us, e3 _ _ hD2, Nat.lt_of_le_of_lt (show us.length ≤ 1000000 by omega) (by decide), us ++ [.ref a], ext_mut e23 hD, upd_same, by rw [List.length_append]; show us.length + 1 ≤ j + 1; omega, ?_⟩
        rw [take_snoc hS, List.filter_append, show [S].filter (doB d t L z lim) = [S] by simp [hb]]
        exact ((hu.ext e3).app (TAll.one (e23 _ _ ha))).updL (e3 _ _ hD2)
      · rw [decide_eq_false hm] at hb ⊢
        refine iteF ⟨us, e23, e3 _ _ hD2, by omega, ?_⟩
        rw [take_snoc hS, List.filter_append, show [S].filter (doB d t L z lim) = [] by simp [hb], List.append_nil]
        exact hu.ext e3
    · obtain ⟨us, e2, hD2, hul, hu⟩ := pv
      rw [TAll.len ht, List.take_length] at hu
      have hu' : TAll H2 us (goods d t L z lim m) := hu
      refine ⟨by show 0 ≤ sizeLine; decide, fun N0 hN0 => ?_⟩
      have e3 := Ext.upd (o := .lst []) hN0
      refine ⟨_, _, .lst (SqL.of (e3 _ _ hD2)) (TAll.dp (hu'.ext e3)), .lst (SqL.of upd_same) .nil, tsD_shp _, rfl, ?_⟩
      rw [tsD_nil]
      refine k _ _ ((e1.trans e2).trans e3) ?_
      rw [← goods_ok (okOf Z), Bool.not_eq_true', decide_eq_false_iff_not]
end
end K33

set_option Elab.async false
set_option maxRecDepth 100000
set_option maxHeartbeats 4000000
namespace K33
open PySem PySem.Spec PyProof.Rows L2
theorem ok_no {d t : Int} {L : Nat} {z lim : Int} {m : Nat} (k : LullOk d t L z) (h : Ok d t L z lim m) (C : List Int) : barsB d t L z lim m C = false := by
  have := bars_no k h.1 h.2 C
  rw [lat_len] at this
  exact this
theorem ok_noV {d t : Int} {L : Nat} {z lim : Int} {m : Nat} (k : LullOk d t L z) (h : Ok d t L z lim m) (xo : Option (List V)) : barsV d t L z lim m xo = false := by
  cases xo with
  | none => rfl
  | some xs =>
    rw [barsV_some]
    cases hn : toNs xs with
    | none => rfl
    | some ns => exact ok_no k h ns
section
variable {P : Program} {w : World} {K : PySem.W.Frag} {mg : Str → Option Value} {base : Heap} {A : Ad}
theorem LullAt.m {H H' : Hp} {p st : Addr} {d t l z : Int} (h : LullAt A H p d t l z) (hst : PoolD H st) (e : ExtM st H H') : LullAt A H' p d t l z := by
  obtain ⟨dx, h⟩ := h
  obtain ⟨a, b, q, _⟩ := hst
  exact ⟨dx, e _ _ (fun z => by rw [z, q] at h; cases h) h⟩
theorem TellAt.m {d t : Int} {L : Nat} {z lim : Int} {m : Nat} {H H' : Hp} {v : V} {st : Addr} (h : TellAt d t L z lim m H v) (hst : PoolD H st) (e : ExtM st H H') : TellAt d t L z lim m H' v := by
  rcases h with h | ⟨tr, C, r, h1, h2⟩
  · exact .inl h
  · obtain ⟨a, b, q, _⟩ := hst
    exact .inr ⟨tr, C, r, e _ _ (fun z => by rw [z, q] at h1; cases h1) h1, h2⟩
def spCountR (A : Ad) : Sp := fun vs H Q _ => ∃ (st pl lu : Addr) (lim d t : Int) (L : Nat) (z : Int) (m : Nat), vs = [.ref st, .ref pl, .ref lu, .int lim, .int (m : Int)] ∧ PoolD H st ∧ PlainAt H pl d t (L : Int) z ∧ pl ≠ st ∧ LullAt A H lu d t (L : Int) z ∧ Sizes d t L z ∧ z ≤ 8 ∧ 1 ≤ lim ∧ lim ≤ 20000 ∧ (m : Int) ≤ z - 1 ∧
  ∀ H', PoolD H' st → ExtM st H H' → Q (.bl true) H'
theorem ok_countR {f : Addr} {fd : FuncData} (F : Fun K "_law_count_right" "_law_count_right" s__law_count_right f fd) (T : Txt K mg A) (O_barring_chain : Own P w K mg base CX0 "barring_chain" 6 pm_barring_chain (spBarring A)) (O__law_does : Own P w K mg base CX0 "_law_does" 3 pm__law_does (spDoes K)) (O__law_due : Own P w K mg base CX0 "_law_due" 2 pm__law_due (spDueC K))
    (O__law_chain : Own P w K mg base CX0 "_law_chain" 3 pm__law_chain (spLChain K)) (O_bars_signs : Own P w K mg base (L2.CX P w) "bars_signs" 6 pm_bars_signs (spBarsS A)) : FnOk P w K mg base CX0 7 f fd pm__law_count_right (spCountR A) := by
  refine F.ok sc__law_count_right (fun vs H Q E h => ?_) (fun cdv A' outer s H vs Q E hr h => ?_)
  · obtain ⟨_, _, _, _, _, _, _, _, _, rfl, _⟩ := h
    rfl
  · obtain ⟨st, pl, lu, lim, d, t, L, z, m, rfl, hst, hP, nps, hL, sz, z8, l0, l1, hm, k⟩ := h
    refine ⟨_, pss_cons (ps_par (i := 5) (j := 6) (by rfl) sc__law_count_right.nd rfl rfl (by decide) rfl rfl (pa_cons (pe_own O_barring_chain (hr.mono (by decide)) pass0 (pa_cons (pv 2) (pa_cons (pv 3) (pa_cons (pv 4) pa_nil)))) (pa_cons (pe_own O__law_does (hr.mono (by decide)) pass0 (pa_cons (pv 1) (pa_cons (pv 3) (pa_cons (pv 4) pa_nil)))) pa_nil)) (by rfl))
      (pss_cons (ps_if (PW.pt (pw_or (pt_cmpR op_ne (pe_cmpR op_isN (pv 5) (pe_non) (nomark _)) (pv 6) (nomark _)) (pw_or1 (PW.pt (pw_and (pt_cmpR op_notN (pv 5) (pe_non) (nomark _)) (pw_and1 (pt_not (pt_val (pe_own O__law_due (hr.mono (by decide)) pass0 (pa_cons (pv 1) (pa_cons (pv 3) (pa_cons (pv 4) (pa_cons (pv 5) pa_nil))))))))))))) (pss_one (ps_ret (pe_bl))) (pss_nil))
      (pss_cons (ps_for PassesOwn.never rfl (pi_range1 rfl T.n_range (pa_cons (pe_int) pa_nil)) (pg_name (i := 7) sc__law_count_right.nd rfl (Or.inl rfl)) (pss_cons (ps_set (i := 8) sc__law_count_right.nd rfl (Or.inl rfl) (pe_own O__law_chain (hr.mono (by decide)) pass0 (pa_cons (pv 0) (pa_cons (pv 1) (pa_cons (pv 4) (pa_cons (pv 5) pa_nil))))))
      (pss_cons (ps_set (i := 9) sc__law_count_right.nd rfl (Or.inl rfl) (pe_own O__law_due (hr.mono (by decide)) pass0 (pa_cons (pv 1) (pa_cons (pv 3) (pa_cons (pv 4) (pa_cons (pv 8) pa_nil))))))
      (pss_one (ps_if (PW.pt (pw_or (pt_cmpR op_ne (pe_own O_bars_signs (hr.mono (by decide)) passL (pa_cons (pv 2) (pa_cons (pv 3) (pa_cons (pv 4) (pa_cons (pv 8) pa_nil))))) (pv 9) (nomark _)) (pw_or1 (PW.pt (pw_and (pt_truth (pv 9) (by intro _; rfl)) (pw_and1 (pt_truth (pv 6) (by intro _; rfl)))))))) (pss_one (ps_ret (pe_bl))) (pss_nil))))))
      (pss_one (ps_ret (pe_or (pe_cmpR op_isN (pv 5) (pe_non) (nomark _)) (pe_one (pe_cmpR op_isBl (pe_own O_bars_signs (hr.mono (by decide)) passL (pa_cons (pv 2) (pa_cons (pv 3) (pa_cons (pv 4) (pa_cons (pv 5) pa_nil))))) (pe_bl) (nomark _)))))))), ?_⟩
    have kk := okOf sz
    refine ⟨_, rfl, _, rfl, _, rfl, lu, lim, d, t, L, z, m, rfl, hL, sz, l0, l1, hm, fun v H1 e1 htell => ?_⟩
    refine ⟨_, rfl, _, rfl, _, rfl, pl, lim, d, t, L, z, m, rfl, e1 _ _ hP, sz, z8, hm, fun b H2 e2 hb => ⟨_, _, rfl, ?_⟩⟩
    have e12 := e1.trans e2
    have tell2 : TellAt d t L z lim m H2 v := by
      rcases htell with h | ⟨tr, C, r, h1, h2⟩
      · exact .inl h
      · exact .inr ⟨tr, C, r, e2 _ _ h1, h2⟩
    have st2 := hst.ext e12
    have x2 : ExtM st H H2 := Ext.m e12
    obtain ⟨Co, hCo⟩ : ∃ Co : Option (List Int), ∀ H', ExtM st H2 H' → TvAt H' v Co := by
      rcases tell2 with ⟨h, _⟩ | ⟨tr, C, r, h1, h2, h3⟩
      · exact ⟨none, fun _ _ => h⟩
      · refine ⟨some C, fun H' x => ⟨tr, r, ?_, ?_, h3⟩⟩
        · obtain ⟨a, b, q, _⟩ := st2
          exact x _ _ (fun z => by rw [z, q] at h1; cases h1) h1
        · cases C with
          | nil => cases h2
          | cons _ _ => exact Nat.succ_pos _
    obtain ⟨v0, hv0⟩ : ∃ v0, v0 = v := ⟨v, rfl⟩
    have hno : b = true → ∀ xo, barsV d t L z lim m xo = false := fun h xo => ok_noV kk (hb.mp h) xo
    have m500 : m ≤ 500 := by have := sz.z2; omega
    have l3 : L ≤ 3 := by have := sz.l2; omega
    have fin : ∀ H3, PoolD H3 st → ExtM st H H3 → ExtM st H2 H3 → TellAt d t L z lim m H3 v → True := fun _ _ _ _ _ => trivial
    rcases id tell2 with ⟨rfl, hOk⟩ | ⟨tr, C, rfl, h1, h2, h3⟩
    case' inl =>
      have hbt : b = true := hb.mpr hOk
      refine ⟨_, rfl, rfl, _, rfl, rfl, _, rfl, ?_⟩
      rw [show (!decide (V.bl (decide (V.non = V.non)) = V.bl b)) = false by rw [hbt]; rfl]
      refine iteF ⟨_, rfl, rfl, _, rfl, iteF (iteF ?_)⟩
      have st3 := st2
      have x3 := x2
      have x23 : ExtM st H2 H2 := ExtM.rfl'
    case' inr =>
      have hbf : b = false := by
        cases hbb : b with
        | false => rfl
        | true =>
          have := ok_no kk (hb.mp hbb) C
          rw [h2] at this
          cases this
      refine ⟨_, rfl, rfl, _, rfl, rfl, _, rfl, ?_⟩
      rw [show (!decide (V.bl (decide (V.ref tr = V.non)) = V.bl b)) = false by rw [hbf]; rfl]
      refine iteF ⟨_, rfl, rfl, _, rfl, iteT ⟨_, rfl, _, rfl, _, rfl, _, rfl, pl, lim, d, t, L, z, m, .ref tr, some (C.map V.int), rfl, e12 _ _ hP, sz, ⟨tr, rfl, h1, Fx.ints, by rw [List.length_map]; omega⟩, fun H3 e3 => ⟨_, rfl, ?_⟩⟩⟩
      rw [show barsV d t L z lim m (some (C.map V.int)) = true by rw [barsV_some, toNs_int]; exact h2]
      refine iteF ?_
      have st3 := st2.ext e3
      have x3 := x2.trans (Ext.m e3)
      have x23 : ExtM st H2 H3 := Ext.m e3
    all_goals (
      refine ⟨5, rfl, by decide, by decide, ?_⟩
      refine for_range (n := 5) (fun i σ' H' => PoolD H' st ∧ ExtM st H H' ∧ ExtM st H2 H' ∧ ∃ o7 o8 o9 vv, σ' = [some (.ref st), some (.ref pl), some (.ref lu), some (.int lim), some (.int (m : Int)), some vv, some (.bl b), o7, o8, o9] ∧ TellAt d t L z lim m H' vv ∧ TvAt H' vv Co ∧ vv = v0) ⟨st3, x3, x23, _, _, _, _, rfl, tell2.m st2 x23, hCo _ x23, hv0.symm⟩ (fun i σ' H4 hi pv => ?_) (fun σ' H4 pv => ?_)
      · obtain ⟨st4, x4, x24, o7, o8, o9, vv, rfl, tell4, hco4, hvv⟩ := pv
        refine ⟨_, rfl, _, rfl, _, rfl, _, rfl, st, pl, d, t, L, z, m, vv, Co, rfl, st4, x4 pl _ nps hP, nps, l3, m500, hco4, fun v' xo H5 hcv st5 x5 => ?_⟩
        have x45 := x4.trans x5
        refine ⟨_, rfl, _, rfl, _, rfl, _, rfl, pl, lim, d, t, L, z, m, v', xo, rfl, x45 pl _ nps hP, sz, hcv, fun H6 e6 => ?_⟩
        refine ⟨_, rfl, _, rfl, _, rfl, _, rfl, lu, lim, d, t, L, z, m, v', xo, rfl, (hL.m hst x45).ext e6, sz, by omega, l1, hm, hcv.ext e6, fun _ H7 e7 => ⟨_, rfl, rfl, _, rfl, ?_⟩, fun h0 => by omega⟩
        rw [show (!decide (V.bl (barsV d t L z lim m xo) = V.bl (barsV d t L z lim m xo))) = false by rw [decide_eq_true rfl]; rfl]
        refine iteF ⟨_, rfl, _, rfl, ?_⟩
        have e67 := e6.trans e7
        have x47 := x5.trans (Ext.m e67)
        have hco7 : TvAt H7 vv Co := by
          rw [hvv, hv0]
          exact hCo _ (x24.trans x47)
        have tell7 := tell4.m st4 x47
        have st7 := st5.ext e67
        have x07 := x4.trans x47
        have x27 := x24.trans x47
        cases hbv : barsV d t L z lim m xo with
        | false => exact iteF (iteF ⟨st7, x07, x27, _, _, _, _, rfl, tell7, hco7, hvv⟩)
        | true =>
          refine iteT ⟨_, rfl, _, rfl, ?_⟩
          cases hbb : b with
          | true =>
            have := hno hbb xo
            rw [hbv] at this
            cases this
          | false => exact iteF ⟨st7, x07, x27, _, _, _, _, rfl, tell7, hco7, hvv⟩
      · obtain ⟨st4, x4, x24, o7, o8, o9, vv, rfl, tell4, hco4, hvv⟩ := pv
        rcases tell4 with ⟨rfl, hOk⟩ | ⟨tr', C', rfl, h1', h2', h3'⟩
        · exact ⟨_, rfl, rfl, _, rfl, iteT (k _ st4 x4)⟩
        · refine ⟨_, rfl, rfl, _, rfl, iteF ⟨_, rfl, _, rfl, _, rfl, _, rfl, lu, lim, d, t, L, z, m, .ref tr', some (C'.map V.int), rfl, hL.m hst x4, sz, by omega, l1, hm, ⟨tr', rfl, h1', Fx.ints, by rw [List.length_map]; omega⟩, fun _ H7 e7 => ⟨_, _, rfl, rfl, ?_⟩, fun h0 => by omega⟩⟩
          rw [show barsV d t L z lim m (some (C'.map V.int)) = true by rw [barsV_some, toNs_int]; exact h2']
          exact k _ (st4.ext e7) (x4.trans (Ext.m e7)))
end
end K33

set_option Elab.async false
set_option maxRecDepth 100000
set_option maxHeartbeats 4000000
namespace K33
open PySem PySem.Spec PyProof.Rows L2
section
variable {P : Program} {w : World} {K : PySem.W.Frag} {mg : Str → Option Value} {base : Heap} {A : Ad}
theorem cut_ints (xs : List Int) (h : 0 < xs.length) : ∃ S : List Int, cutV (xs.map V.int) (some 1) none = S.map V.int ∧ S.length < xs.length := by
  have h1 : (cutV (xs.map V.int) (some 1) none).length ≤ (xs.map V.int).length - (0 + 1) := cut_hi (j := 0)
  refine ⟨(xs.drop (HT.sIx (xs.map V.int).length 0 (some 1))).take (HT.sIx (xs.map V.int).length (xs.map V.int).length none - HT.sIx (xs.map V.int).length 0 (some 1)), ?_, ?_⟩
  · unfold cutV
    rw [← List.map_drop, ← List.map_take]
  · have e : cutV (xs.map V.int) (some 1) none = ((xs.drop (HT.sIx (xs.map V.int).length 0 (some 1))).take (HT.sIx (xs.map V.int).length (xs.map V.int).length none - HT.sIx (xs.map V.int).length 0 (some 1))).map V.int := by
      unfold cutV
      rw [← List.map_drop, ← List.map_take]
    simp only [e, List.length_map] at h1 ⊢
    omega
def spBestR (A : Ad) : Sp := fun vs H Q _ => ∃ (lu : Addr) (lim d t : Int) (L : Nat) (z : Int) (m : Nat), vs = [.ref lu, .int lim, .int (m : Int)] ∧ LullAt A H lu d t (L : Int) z ∧ Sizes d t L z ∧ 1 ≤ lim ∧ lim ≤ 20000 ∧ (m : Int) = z - 1 ∧
  ∀ H', Ext H H' → Q (.bl true) H'
theorem ok_bestR {f : Addr} {fd : FuncData} (F : Fun K "_law_best_right" "_law_best_right" s__law_best_right f fd) (T : Txt K mg A) (O_barring_chain : Own P w K mg base CX0 "barring_chain" 6 pm_barring_chain (spBarring A))
    (O_best_signs : Own P w K mg base (L2.CX P w) "best_signs" 6 pm_best_signs (spBest A)) (O_shows_best : Own P w K mg base (L2.CX P w) "shows_best" 6 pm_shows_best (spShows A)) : FnOk P w K mg base CX0 7 f fd pm__law_best_right (spBestR A) := by
  refine F.ok sc__law_best_right (fun vs H Q E h => ?_) (fun cdv A' outer s H vs Q E hr h => ?_)
  · obtain ⟨_, _, _, _, _, _, _, rfl, _⟩ := h
    rfl
  · obtain ⟨lu, lim, d, t, L, z, m, rfl, hL, sz, l0, l1, hm, k⟩ := h
    refine ⟨_, pss_cons (ps_set (i := 3) sc__law_best_right.nd rfl (Or.inl rfl) (pe_own O_best_signs (hr.mono (by decide)) passL (pa_cons (pv 0) (pa_cons (pv 1) pa_nil))))
      (pss_cons (ps_if (pt_cmpR op_isN (pv 3) (pe_non) (nomark _)) (pss_one (ps_ret (pe_not (pe_own O_shows_best (hr.mono (by decide)) passL (pa_cons (pv 0) (pa_cons (pv 1) (pa_cons (pe_tupRg rfl (by rfl) T.n_tuple (prg_2 (by rfl) T.n_range (pe_int) (pe_op op_add (pv 2) (pe_int)))) (pa_cons (pe_own O_barring_chain (hr.mono (by decide)) pass0 (pa_cons (pv 0) (pa_cons (pv 1) (pa_cons (pv 2) pa_nil)))) pa_nil)))))))) (pss_nil))
      (pss_cons (ps_set (i := 4) sc__law_best_right.nd rfl (Or.inl rfl) (pe_ifExp (pt_cmpR (op_eqD hr.units) (pv 3) (pe_tup (pa_nil)) (nomark _)) (pe_non) (pe_own O_barring_chain (hr.mono (by decide)) pass0 (pa_cons (pv 0) (pa_cons (pv 1) (pa_cons (pe_op op_sub (pe_callB call_len_seq (by rfl) T.n_len (by decide +kernel) (pa_cons (pv 3) pa_nil)) (pe_int)) pa_nil))))))
      (pss_cons (ps_if (PW.pt (pw_or (pt_not (pt_val (pe_own O_shows_best (hr.mono (by decide)) passL (pa_cons (pv 0) (pa_cons (pv 1) (pa_cons (pv 3) (pa_cons (pv 4) pa_nil))))))) (pw_or1 (pt_val (pe_own O_shows_best (hr.mono (by decide)) passL (pa_cons (pv 0) (pa_cons (pv 1) (pa_cons (pe_callTy call_list_of (by rfl) T.n_list (by decide +kernel) (pa_cons (pv 3) pa_nil)) (pa_cons (pv 4) pa_nil))))))))) (pss_one (ps_ret (pe_bl))) (pss_nil))
      (pss_one (ps_ret (pe_or (pe_cmpR (op_eqD hr.units) (pv 3) (pe_tup (pa_nil)) (nomark _)) (pe_one (pe_and (pe_not (pe_own O_shows_best (hr.mono (by decide)) passL (pa_cons (pv 0) (pa_cons (pv 1) (pa_cons (pv 3) (pa_cons (pe_non) pa_nil)))))) (pe_one (pe_not (pe_own O_shows_best (hr.mono (by decide)) passL (pa_cons (pv 0) (pa_cons (pv 1) (pa_cons (pe_slice sl_tupE (pv 3) (po_some (pe_int)) po_none) (pa_cons (pv 4) pa_nil))))))))))))))), ?_⟩
    have kk := okOf sz
    refine ⟨_, rfl, _, rfl, lu, .int lim, .int, d, t, L, z, rfl, ki _, hL, sz, (fun hb => by rw [bw l0 l1] at hb; cases hb), fun lim2 el _ _ => ?_⟩
    cases el
    refine ⟨fun hno H1 e1 => ?_, fun m1 hm1 q H1 e1 hq => ?_⟩
    · have hokm : ¬ Ok d t L z lim m := hno m (by omega)
      refine ⟨_, rfl, rfl, _, rfl, iteT ⟨_, rfl, _, rfl, _, rfl, _, _, rfl, rfl, _, _, rfl, rfl, RgOk.of_le (by omega) (by have := sz.z2; omega) (by omega) (by omega), fun q0 h0 => ?_⟩⟩
      have e0 := e1.trans (Ext.upd (o := .tup (rgV 1 ((m : Int) + 1))) h0)
      have hq0 : upd H1 q0 (.tup (rgV 1 ((m : Int) + 1))) q0 = some (.tup ((rl 1 ((m : Int) + 1)).map V.int)) := by rw [upd_same, rl_rg]
      have hlen : (rl 1 ((m : Int) + 1)).length = m := by
        unfold rl
        rw [List.length_map, List.length_range]
        omega
      generalize upd H1 q0 _ = H2 at e0 hq0 ⊢
      refine ⟨_, rfl, _, rfl, _, rfl, lu, lim, d, t, L, z, m, rfl, hL.ext e0, sz, l0, l1, by omega, fun v H3 e3 htell => ?_⟩
      rcases htell with ⟨_, h⟩ | ⟨tr, C, rfl, h1, h2, h3⟩
      · exact absurd h hokm
      refine ⟨lu, lim, d, t, L, z, .ref q0, .ref tr, some (rl 1 ((m : Int) + 1)), some (C.map V.int), rfl, (hL.ext e0).ext e3, sz, by omega, l1, fun _ => ⟨⟨q0, rfl, e3 _ _ hq0, by rw [hlen]; have := sz.z2; omega⟩, ⟨tr, rfl, h1, Fx.ints, by rw [List.length_map]; omega⟩, fun H4 e4 => ⟨_, rfl, ?_⟩⟩, fun h => by omega⟩
      rw [shows_no (fun h => hokm (by have := ok_of kk h.1 h.2; rwa [hlen] at this))]
      exact k _ ((e0.trans e3).trans e4)
    · have hS := hm1.1
      have hlen : (lat d L z lim m1).length = m1 := lat_len
      have hm1z := hm1.2.2
      have hlow : ∀ (S : List Int) xo, S.length < m1 → showsV d t L z lim (some S) xo = false := fun S xo h => shows_no (fun h' => hm1.2.1 _ h (ok_of kk h'.1 h'.2))
      have hsg : ∀ H', Ext H1 H' → SgAt H' (.ref q) (some (lat d L z lim m1)) := fun H' e => ⟨q, rfl, e _ _ hq, by rw [hlen]; have := sz.z2; omega⟩
      refine ⟨_, rfl, rfl, _, rfl, iteF ?_⟩
      refine ⟨_, rfl, by show 0 ≤ sizeLine; decide, fun q2 h2 => ?_⟩
      have e2 := Ext.upd (o := .tup []) h2
      refine eqD_tup (vs := (lat d L z lim m1).map V.int) (us := ([] : List Int).map V.int) (SqT.of (e2 _ _ hq)) (SqT.of upd_same) fl_ints fl_ints ⟨_, rfl, ?_⟩
      rw [eqv_ints]
      generalize upd H1 q2 _ = H2 at e2 ⊢
      have e02 := e1.trans e2
      cases hz : decide (lat d L z lim m1 = [])
      case' true =>
        have hnil := of_decide_eq_true hz
        refine iteT ?_
        have s1 : showsV d t L z lim (some (lat d L z lim m1)) Option.none = true := by rw [shows_yes hS, hz]; rfl
        have cv : CvAt H2 .non Option.none := ⟨.none, rfl, rfl⟩
        have cx : ∀ H', Ext H2 H' → CvAt H' .non Option.none := fun _ => cv.ext
        have e3 : Ext H2 H2 := Ext.rfl'
      case' false =>
        have hnn := of_decide_eq_false hz
        obtain ⟨mm, hmm⟩ : ∃ mm, m1 = mm + 1 := by
          cases m1 with
          | zero => exact absurd (List.length_eq_zero_iff.mp hlen) hnn
          | succ mm => exact ⟨mm, rfl⟩
        refine iteF ?_
        refine ⟨_, rfl, _, rfl, _, rfl, q, _, rfl, .inr (SqT.of (e2 _ _ hq)), _, _, rfl, rfl, lu, lim, d, t, L, z, mm, congrArg (fun i => [V.ref lu, .int lim, .int i]) (by rw [List.length_map, hlen, hmm]; omega), hL.ext e02, sz, l0, l1, by omega, fun v H3 e3 htell => ?_⟩
        rcases htell with ⟨_, h⟩ | ⟨tr, C, rfl, h1, h2, h3⟩
        · exact absurd h (hm1.2.1 mm (by omega))
        have s1 : showsV d t L z lim (some (lat d L z lim m1)) (some (C.map V.int)) = true := by
          rw [shows_yes hS, hz, hlen, hmm, barsV_some, toNs_int]
          exact h2
        have cv : CvAt H3 (.ref tr) (some (C.map V.int)) := ⟨tr, rfl, h1, Fx.ints, by rw [List.length_map]; omega⟩
        have cx : ∀ H', Ext H3 H' → CvAt H' (.ref tr) (some (C.map V.int)) := fun _ => cv.ext
      all_goals
        have e03 := e02.trans e3
        have e13 := e2.trans e3
        refine ⟨_, rfl, _, rfl, _, rfl, _, rfl, lu, lim, d, t, L, z, .ref q, _, some (lat d L z lim m1), _, rfl, hL.ext e03, sz, by omega, l1, fun _ => ⟨hsg _ e13, cv, fun H4 e4 => ?_⟩, fun h => by omega⟩
        rw [s1]
        refine ⟨_, rfl, iteF ⟨_, rfl, _, rfl, _, rfl, q, _, rfl, .inr (SqT.of (e4 _ _ (e3 _ _ (e2 _ _ hq)))), fun l hl => ?_⟩⟩
        have el := Ext.upd (o := .lst ((lat d L z lim m1).map V.int)) hl
        refine ⟨_, rfl, lu, lim, d, t, L, z, .ref l, _, Option.none, _, rfl, (hL.ext (e03.trans e4)).ext el, sz, by omega, l1, fun _ => ⟨⟨.list, ⟨l, _, rfl, upd_same⟩, rfl⟩, cx _ (e4.trans el), fun H5 e5 => ⟨_, rfl, iteF ?_⟩⟩, fun h => by omega⟩
        have e45 := (e4.trans el).trans e5
        have e15 := e13.trans e45
        refine ⟨_, rfl, by show 0 ≤ sizeLine; decide, fun q6 h6 => ?_⟩
        have e6 := Ext.upd (o := .tup []) h6
        refine eqD_tup (vs := (lat d L z lim m1).map V.int) (us := ([] : List Int).map V.int) (SqT.of (e6 _ _ (e15 _ _ hq))) (SqT.of upd_same) fl_ints fl_ints ?_
        rw [eqv_ints, hz]
        generalize upd H5 q6 _ = H6 at e6 ⊢
        have e06 := (e03.trans e45).trans e6
        have e16 := e15.trans e6
        have c6 := cx _ (e45.trans e6)
      · refine ⟨_, rfl, iteF ?_⟩
        refine ⟨_, rfl, _, rfl, _, rfl, lu, lim, d, t, L, z, .ref q, .non, some (lat d L z lim m1), Option.none, rfl, hL.ext e06, sz, by omega, l1, fun _ => ⟨hsg _ e16, ⟨.none, rfl, rfl⟩, fun H7 e7 => ?_⟩, fun h => by omega⟩
        rw [show showsV d t L z lim (some (lat d L z lim m1)) Option.none = false by rw [shows_yes hS, hz]; rfl]
        refine ⟨_, rfl, _, rfl, iteT ?_⟩
        obtain ⟨S', hS', hl'⟩ := cut_ints (lat d L z lim m1) (by rw [hlen]; omega)
        refine ⟨_, rfl, _, rfl, _, rfl, _, rfl, q, _, rfl, e7 _ _ (e16 _ _ hq), fun p H8 e8 hp => ?_⟩
        rw [hS'] at hp
        have e08 := (e06.trans e7).trans e8
        refine ⟨_, rfl, lu, lim, d, t, L, z, .ref p, _, some S', _, rfl, hL.ext e08, sz, by omega, l1, fun _ => ⟨⟨p, rfl, hp, by have := sz.z2; omega⟩, c6.ext (e7.trans e8), fun H9 e9 => ⟨_, rfl, ?_⟩⟩, fun h => by omega⟩
        rw [hlow S' _ (by rw [← hlen]; exact hl')]
        exact k _ (e08.trans e9)
      · exact ⟨_, rfl, iteT (k _ e06)⟩
end
end K33

set_option Elab.async false
set_option maxRecDepth 100000
set_option maxHeartbeats 4000000
namespace K33
open PySem PySem.Spec PyProof.Rows L2
theorem ext_st {st : Addr} {H0 H H' : Hp} (e : Ext H0 H) (h0 : H0 st = none) (x : ExtM st H H') : Ext H0 H' := fun a u h => x a u (ne_of_none h h0) (e a u h)
def tOrE (t1 t2 : TE) : TE := fun σ H Q => t1 σ H Q ∨ t2 σ H Q
theorem pe_orE {X : Cx} {e : Expr} {t1 t2 : TE} (a : PE X e t1) (b : PE X e t2) : PE X e (tOrE t1 t2) := ⟨fun pins s σ H Q I h => h.elim (a.run pins s σ H Q I) (b.run pins s σ H Q I)⟩
def tArgs : TA := tCons (tVar 5) (tCons (tC (.int 0)) (tCons (tC (.int 0)) (tCons (tTup tNil) tNil)))
def tbLaw (A : Ad) (fB fS : Addr) (W : WX) : TS := tSeq (tDrop (tOrE (tCallVS 8 fB (spBarsS A) (WE W) tArgs) (tCallVS 8 fS (spShows A) (WE W) tArgs))) (tRet (tC (.bl false)))
def tsLaw (A : Ad) (a : Addr) (cls : Value) (d : Option Addr) : TS := tIfS (tTest (tOp rNe (tXf a cls d A.BadNumber "number" (tVar 9)) (tC (.int 0)))) (tRet (tC (.bl false))) tNext
section
variable {P : Program} {w : World} {K : PySem.W.Frag} {mg : Str → Option Value} {base : Heap} {A : Ad}
def spLaw (K : PySem.W.Frag) : Sp := fun vs H Q _ => ∃ (a : Addr) (ns : List Int), vs = [.ref a] ∧ SqL K H a (ns.map V.int) ∧ ns.length ≤ 63 ∧ ∀ H', Q (.bl true) H'
theorem ok_law {f fB fS : Addr} {fd : FuncData} (F : Fun K "law" "law" s_law f fd) (T : Txt K mg A) (hB : mg "bars_signs" = some (.ref fB)) (hS : mg "shows_best" = some (.ref fS)) (O__law_pool : Own P w K mg base CX0 "_law_pool" 1 pm__law_pool (spPool K)) (O__law_take : Own P w K mg base CX0 "_law_take" 1 pm__law_take spTake)
    (O_Lull : OwnC P w K mg base CX0 "Lull" A.Lull 4 pm_Lull_init (spLullInit A)) (O__law_count_right : Own P w K mg base CX0 "_law_count_right" 7 pm__law_count_right (spCountR A)) (O__law_best_right : Own P w K mg base CX0 "_law_best_right" 7 pm__law_best_right (spBestR A))
    (O_fB : OwnAt P w K mg base (L2.CX P w) fB 6 pm_bars_signs (spBarsS A)) (O_fS : OwnAt P w K mg base (L2.CX P w) fS 6 pm_shows_best (spShows A)) : FnOk P w K mg base CX0 9 f fd pm_law (spLaw K) := by
  refine F.ok sc_law (fun vs H Q E h => ?_) (fun cdv A' outer sh H vs Q E hr h => ?_)
  · obtain ⟨_, _, rfl, _⟩ := h
    rfl
  · obtain ⟨sc, ns, rfl, hSq, hlen, k⟩ := h
    refine ⟨_, pss_cons (ps_for PassesOwn.never rfl (pi_range1 rfl T.n_range (pa_cons (pe_callB (call_max2 rfl) (by rfl) T.n_max (by decide +kernel) (pa_cons (pe_int) (pa_cons (pe_callB (call_min2 rfl) (by rfl) T.n_min (by decide +kernel) (pa_cons (pe_int) (pa_cons (pe_callB call_len_seq (by rfl) T.n_len (by decide +kernel) (pa_cons (pv 0) pa_nil)) pa_nil))) pa_nil))) pa_nil)) (pg_name (i := 1) sc_law.nd rfl (Or.inl rfl)) (pss_cons (ps_set (i := 2) sc_law.nd rfl (Or.inl rfl) (pe_own O__law_pool (hr.mono (by decide)) pass0 (pa_cons (pv 0) (pa_cons (pv 1) pa_nil))))
      (pss_cons (ps_set (i := 3) sc_law.nd rfl (Or.inl rfl) (pe_op op_add (pe_int) (pe_own O__law_take (hr.mono (by decide)) pass0 (pa_cons (pv 2) (pa_cons (pe_int) pa_nil)))))
      (pss_cons (ps_set (i := 4) sc_law.nd rfl (Or.inl rfl) (pe_lst (pa_cons (pv 3) (pa_cons (pe_op op_add (pe_op op_mul (pe_int) (pv 3)) (pe_own O__law_take (hr.mono (by decide)) pass0 (pa_cons (pv 2) (pa_cons (pe_int) pa_nil)))) (pa_cons (pe_op op_add (pe_int) (pe_own O__law_take (hr.mono (by decide)) pass0 (pa_cons (pv 2) (pa_cons (pe_int) pa_nil)))) (pa_cons (pe_op op_add (pe_int) (pe_own O__law_take (hr.mono (by decide)) pass0 (pa_cons (pv 2) (pa_cons (pe_int) pa_nil)))) pa_nil))))))
      (pss_cons (ps_set (i := 5) sc_law.nd rfl (Or.inl rfl) (pe_new O_Lull (hr.mono (by decide)) pass0 (pa_cons (pe_ix ix_list (pv 4) (pe_int) (fun _ _ => rfl)) (pa_cons (pe_ix ix_list (pv 4) (pe_int) (fun _ _ => rfl)) (pa_cons (pe_ix ix_list (pv 4) (pe_int) (fun _ _ => rfl)) (pa_cons (pe_ix ix_list (pv 4) (pe_int) (fun _ _ => rfl)) pa_nil))))))
      (pss_cons (ps_set (i := 6) sc_law.nd rfl (Or.inl rfl) (pe_op op_add (pe_int) (pe_own O__law_take (hr.mono (by decide)) pass0 (pa_cons (pv 2) (pa_cons (pe_op op_add (pe_op op_mul (pe_ix ix_list (pv 4) (pe_int) (fun _ _ => rfl)) (pe_ix ix_list (pv 4) (pe_int) (fun _ _ => rfl))) (pe_int)) pa_nil)))))
      (pss_cons (ps_for PassesOwn.never rfl (pi_range1 rfl T.n_range (pa_cons (pe_ix ix_list (pv 4) (pe_int) (fun _ _ => rfl)) pa_nil)) (pg_name (i := 7) sc_law.nd rfl (Or.inl rfl)) (pss_one (ps_if (pt_not (pt_val (pe_own O__law_count_right (hr.mono (by decide)) pass0 (pa_cons (pv 2) (pa_cons (pv 4) (pa_cons (pv 5) (pa_cons (pv 6) (pa_cons (pv 7) pa_nil)))))))) (pss_one (ps_ret (pe_bl))) (pss_nil))))
      (pss_cons (ps_if (pt_not (pt_val (pe_own O__law_best_right (hr.mono (by decide)) pass0 (pa_cons (pv 5) (pa_cons (pv 6) (pa_cons (pe_op op_sub (pe_ix ix_list (pv 4) (pe_int) (fun _ _ => rfl)) (pe_int)) pa_nil)))))) (pss_one (ps_ret (pe_bl))) (pss_nil))
      (pss_one (ps_for PassesOwn.never rfl (pi_list (pe_lst (pa_cons (pe_gcls hB) (pa_cons (pe_gcls hS) pa_nil)))) (pg_name (i := 8) sc_law.nd rfl (Or.inl rfl)) (pss_one (ps_try_as (i := 9) (tb := tbLaw A fB fS) (ts := tsLaw A) (Wout := fun _ _ _ _ => False) rfl rfl sc_law.nd rfl rfl ⟨rfl, by decide, Or.inl T.BadNumber.gC⟩ takes0
        (fun W pn xe tk _ => pss_cons (ps_expr (by exact (pe_orE (pe_ownVS O_fB (hr.mono (by decide)) tk rfl (Or.inl rfl) (pa_cons (pv 5) (pa_cons pe_int (pa_cons pe_int (pa_cons (pe_tup pa_nil) pa_nil))))) (pe_ownVS O_fS (hr.mono (by decide)) tk rfl (Or.inl rfl) (pa_cons (pv 5) (pa_cons pe_int (pa_cons pe_int (pa_cons (pe_tup pa_nil) pa_nil)))))))) (pss_one (ps_ret pe_bl)))
        (fun a oe cls d pn hz hf => pss_one (ps_if (pt_cmpR op_ne (by exact (pe_xf ⟨T.BadNumber.ec.hg, T.BadNumber.ec.hk, T.BadNumber.ec.hs, T.BadNumber.ec.hd⟩ T.BadNumber.noA hz hf (pv 9))) pe_int (nomark _)) (pss_one (ps_ret pe_bl)) pss_nil))))))))))))))
      (pss_one (ps_ret (pe_bl))), ?_⟩
    refine ⟨_, rfl, sc, _, rfl, .inl hSq, _, _, rfl, _, _, rfl, _, rfl, ?_⟩
    rw [List.length_map]
    have hj : ∀ a : Int, a = (if (ns.length : Int) < 3 then (ns.length : Int) else 3) → 0 ≤ (if a > 1 then a else 1) ∧ (if a > 1 then a else 1) ≤ 3 := fun a ha => by
      subst ha
      split <;> split <;> omega
    obtain ⟨j0, j3⟩ := hj _ rfl
    generalize (if (if (ns.length : Int) < 3 then (ns.length : Int) else 3) > 1 then (if (ns.length : Int) < 3 then (ns.length : Int) else 3) else 1) = jj at j0 j3 ⊢
    refine ⟨by omega, by omega, ?_⟩
    refine for_range (fun i σ' H' => ∃ o1 o2 o3 o4 o5 o6 o7 o8 : Option V, σ' = [some (.ref sc), o1, o2, o3, o4, o5, o6, o7, o8, Option.none] ∧ Ext H H') ⟨_, _, _, _, _, _, _, _, rfl, Ext.rfl'⟩ (fun i σ' H0 hi pv => ?_) (fun σ' H' pv => ?_)
    · obtain ⟨o1, o2, o3, o4, o5, o6, o7, o8, rfl, e0⟩ := pv
      refine ⟨_, rfl, _, rfl, sc, ns, i, (by rw [Int.zero_add]; rfl), hSq.ext e0, hlen, by omega, fun st H1 e1 hst0 st1 => ?_⟩
      refine ⟨_, rfl, st, 3, rfl, st1, by decide, by decide, fun n1 H2 n10 n13 st2 x2 => ⟨_, _, rfl, rfl, ?_⟩⟩
      refine ⟨_, rfl, _, rfl, _, _, rfl, rfl, .inl ⟨by decide, by decide⟩, _, rfl, st, 6, rfl, st2, by decide, by decide, fun n2 H3 n20 n26 st3 x3 => ⟨_, _, rfl, rfl, _, rfl, st, 3, rfl, st3, by decide, by decide, fun n3 H4 n30 n33 st4 x4 => ⟨_, _, rfl, rfl, _, rfl, st, 7, rfl, st4, by decide, by decide, fun n4 H5 n40 n48 st5 x5 => ⟨_, _, rfl, rfl, by show 4 ≤ sizeLine; decide, fun pl hpl => ?_⟩⟩⟩⟩
      have e5 : Ext H0 H5 := ext_st e1 hst0 (((x2.trans x3).trans x4).trans x5)
      have npl := st5.new hpl
      obtain ⟨L, hL⟩ : ∃ L : Nat, 1 + n3 = (L : Int) := ⟨(1 + n3).toNat, by omega⟩
      have e6' := Ext.upd (o := .lst [.int (1 + n1), .int (2 * (1 + n1) + n2), .int (1 + n3), .int (1 + n4)]) hpl
      have st6 := st5.ext e6'
      have hp6 : PlainAt (upd H5 pl (.lst [.int (1 + n1), .int (2 * (1 + n1) + n2), .int (1 + n3), .int (1 + n4)])) pl (1 + n1) (2 * (1 + n1) + n2) (L : Int) (1 + n4) := by
        unfold PlainAt
        rw [upd_same, hL]
      have e6 := e5.trans e6'
      have Z : Sizes (1 + n1) (2 * (1 + n1) + n2) (L : Int) (1 + n4) := ⟨by omega, by omega, by omega, by omega, by omega, by omega, by omega, by omega⟩
      have z8 : 1 + n4 ≤ 8 := by omega
      generalize upd H5 pl _ = H6 at e6 e6' st6 hp6
      generalize hd : 1 + n1 = d at hp6 Z
      generalize ht : 2 * d + n2 = t at hp6 Z
      generalize hz : 1 + n4 = z at hp6 Z z8
      refine ⟨_, rfl, pl, _, 0, .int d, rfl, rfl, SqL.of hp6, rfl, _, rfl, pl, _, 1, .int t, rfl, rfl, SqL.of hp6, rfl, _, rfl, pl, _, 2, .int (L : Int), rfl, rfl, SqL.of hp6, rfl, _, rfl, pl, _, 3, .int z, rfl, rfl, SqL.of hp6, rfl, fun x0 dx hx0 hdx hne => ?_⟩
      have e7' := (Ext.upd (o := .own x0) hdx).upd' (o := .ins A.Lull dx []) (by rw [upd_ne hne.symm]; exact hx0)
      refine ⟨x0, dx, d, t, L, z, rfl, upd_same, Z, fun H7 hl7 hB => ⟨rfl, ?_⟩⟩
      have e67 : Ext H6 H7 := fun a u h => hB a u (ne_of_none h hx0) (e7' a u h)
      have e7 := e6.trans e67
      have st7 := st6.ext e67
      have hp7 : PlainAt H7 pl d t (L : Int) z := e67 _ _ hp6
      have hz1 := Z.z1
      have hl2 := Z.l2
      have ht2 := Z.t2
      have hl1 := Z.l1
      have ht1 := Z.t1
      have hd1 := Z.d1
      have hLt : 0 ≤ (L : Int) * t ∧ (L : Int) * t ≤ 10000 := ⟨Int.mul_nonneg (by omega) (by omega), Int.le_trans (Int.mul_le_mul hl2 ht2 (by omega) (by decide)) (by decide)⟩
      refine ⟨_, rfl, _, rfl, pl, _, 2, .int (L : Int), rfl, rfl, SqL.of hp7, rfl, _, rfl, pl, _, 1, .int t, rfl, rfl, SqL.of hp7, rfl, ?_⟩
      refine ⟨_, _, rfl, rfl, .inl ⟨by omega, by omega⟩, _, _, rfl, rfl, st, (L : Int) * t + 12, rfl, st7, by omega, by omega, fun n5 H8 n50 n5l st8 x8 => ⟨_, _, rfl, rfl, ?_⟩⟩
      have hp8 : PlainAt H8 pl d t (L : Int) z := x8 pl _ npl hp7
      have hz1 := Z.z1
      have hz2 := Z.z2
      obtain ⟨lim, hlim⟩ : ∃ lim, 1 + n5 = lim := ⟨_, rfl⟩
      have l0 : 1 ≤ lim := by omega
      have l1 : lim ≤ 20000 := by omega
      have hl8 := hl7.m st7 x8
      refine ⟨_, rfl, pl, _, 3, .int z, rfl, rfl, SqL.of hp8, rfl, _, rfl, by omega, by omega, ?_⟩
      show ∃ W : Nat → Nat → L2.St → Hp → Prop, (∃ m, W 0 m [some (.ref sc), some (.int (0 + (i : Int))), some (.ref st), some (.int (1 + n1)), some (.ref pl), some (.ref x0), some (.int (1 + n5)), o7, o8, Option.none] H8) ∧ _
      rw [hlim, hd]
      refine for_range (n := z.toNat) (fun j σ' H' => ∃ o7 : Option V, σ' = [some (.ref sc), some (.int (0 + (i : Int))), some (.ref st), some (.int d), some (.ref pl), some (.ref x0), some (.int lim), o7, o8, Option.none] ∧ PoolD H' st ∧ ExtM st H7 H') ⟨_, rfl, st8, x8⟩ (fun j σ' H9 hj pv => ?_) (fun σ' H9 pv => ?_)
      · obtain ⟨o7, rfl, st9, x9⟩ := pv
        refine ⟨_, rfl, _, rfl, _, rfl, _, rfl, _, rfl, st, pl, x0, lim, d, t, L, z, j, (by rw [Int.zero_add]; rfl), st9, x9 pl _ npl hp7, npl, hl7.m st7 x9, Z, z8, l0, l1, by omega, fun H10 st10 x10 => ⟨_, rfl, iteF ⟨_, rfl, st10, x9.trans x10⟩⟩⟩
      · obtain ⟨o7, rfl, st9, x9⟩ := pv
        obtain ⟨m, hm⟩ : ∃ m : Nat, z - 1 = (m : Int) := ⟨(z - 1).toNat, by omega⟩
        refine ⟨_, rfl, _, rfl, _, rfl, pl, _, 3, .int z, rfl, rfl, SqL.of (x9 pl _ npl hp7), rfl, _, _, rfl, rfl, x0, lim, d, t, L, z, m, congrArg (fun i => [V.ref x0, .int lim, .int i]) hm, hl7.m st7 x9, Z, l0, l1, hm.symm, fun H10 e10 => ⟨_, rfl, iteF ?_⟩⟩
        have x10 := x9.trans (Ext.m e10)
        have h10 := hl7.m st7 x10
        refine ⟨by show 2 ≤ sizeLine; decide, fun l hl => ?_⟩
        have el := Ext.upd (o := .lst [.ref fB, .ref fS]) hl
        have hlS : SqL K (upd H10 l (.lst [.ref fB, .ref fS])) l [.ref fB, .ref fS] := SqL.of upd_same
        have x11 := x10.trans (Ext.m el)
        have h11 := h10.ext el
        generalize upd H10 l _ = H11 at el hlS x11 h11 ⊢
        have e0x : ∀ H', Ext H11 H' → Ext H0 H' := fun H' e => (ext_st e7 hst0 x11).trans e
        refine ⟨l, rfl, ⟨_, hlS⟩, ?_⟩
        refine for_list (xs := [.ref fB, .ref fS]) (tb := fun D σ H_2 => tbLaw A fB fS (wAs K (.ref A.BadNumber) 9 (tsLaw A) (fun _ _ _ _ => False) D) D σ H_2) (fun i' σ' H' => ∃ o8 : Option V, σ' = [some (.ref sc), some (.int (0 + (i : Int))), some (.ref st), some (.int d), some (.ref pl), some (.ref x0), some (.int lim), o7, o8, Option.none] ∧ Ext H11 H') ⟨_, rfl, Ext.rfl'⟩ (fun i' σ' H' _ pv => ?_) (fun i' x σ' H' hx pv => ?_) (fun σ' H' pv => ?_)
        · obtain ⟨_, _, e⟩ := pv
          exact hlS.ext e
        · obtain ⟨o8, rfl, e⟩ := pv
          have h12 := h11.ext e
          have hx' := List.mem_of_getElem? hx
          simp only [List.mem_cons, List.not_mem_nil, or_false] at hx'
          rcases hx' with rfl | rfl
          · refine .inl ⟨rfl, _, rfl, by show 0 ≤ sizeLine; decide, fun q hq => ⟨x0, 0, d, t, L, z, 0, .ref q, some [], rfl, h12.ext (Ext.upd hq), Z, by decide, by decide, by omega, ⟨q, rfl, upd_same, fun x hx => (List.not_mem_nil hx).elim, by decide⟩, fun h => by omega, fun _ e' he' => ?_⟩⟩
            refine ⟨true, T.x_nn, fun _ ae hae => ?_, fun z => nomatch z⟩
            exact ⟨_, rfl, rfl, rfl, e', _, _, rfl, upd_same, rfl, rfl, _, rfl, iteF ⟨_, rfl, (e.trans (Ext.upd hq)).trans (Ext.upd he')⟩⟩
          · refine .inr ⟨rfl, _, rfl, by show 0 ≤ sizeLine; decide, fun q hq => ⟨x0, 0, d, t, L, z, .int 0, .ref q, Option.none, Option.none, rfl, h12.ext (Ext.upd hq), Z, by decide, by decide, fun h => by omega, fun _ e' he' => ?_⟩⟩
            refine ⟨true, T.x_nn, fun _ ae hae => ?_, fun z => nomatch z⟩
            exact ⟨_, rfl, rfl, rfl, e', _, _, rfl, upd_same, rfl, rfl, _, rfl, iteF ⟨_, rfl, (e.trans (Ext.upd hq)).trans (Ext.upd he')⟩⟩
        · obtain ⟨o8, rfl, e⟩ := pv
          exact ⟨_, _, _, _, _, _, _, _, rfl, e0.trans (e0x _ e)⟩
    · obtain ⟨o1, o2, o3, o4, o5, o6, o7, o8, rfl, e⟩ := pv
      exact k _
end
end K33

set_option Elab.async false
set_option maxRecDepth 100000
set_option maxHeartbeats 4000000
namespace K33
open PySem PySem.Spec PyProof.Rows L2
section
variable {P : Program} {w : World} {K : PySem.W.Frag} {mg : Str → Option Value} {base : Heap} {A : Ad}
theorem kit_ref {B C : Addr} {b : Bool} (i : PySem.W.isClsIn K C = true) (t : PySem.W.typeIn K (.ref C) = some (.type "type")) (s : PySem.W.subIn K (.ref B) (.ref C) = some b) (ss : PySem.W.subIn K (.ref B) (.ref B) = some true) : PySem.W.kitOne K (.ref B) (.ref C) = some b := by
  by_cases h : B = C
  · subst h
    rw [ss] at s
    cases s
    exact if_pos (beq_self_eq_true _)
  · have e : ((PySem.W.clsIn K C).isSome && PySem.W.typeIn K (.ref C) == some (.type "type")) = true := by
      have h1 : (PySem.W.clsIn K C).isSome = true := i
      rw [h1, t]
      rfl
    show (if (Value.ref B == Value.ref C) = true then some true else if ((PySem.W.clsIn K C).isSome && PySem.W.typeIn K (.ref C) == some (.type "type")) = true then PySem.W.subIn K (.ref B) (.ref C) else none) = some b
    rw [if_pos e]
    have hne : ¬ ((Value.ref B == Value.ref C) = true) := fun z => by
      have z' := eq_of_beq z
      injection z' with z'
      exact h z'
    rw [if_neg hne]
    exact s
theorem exm_ref {B C : Addr} {b : Bool} (x : PySem.W.subIn K (.ref C) (.type "BaseException") = some true) (i : PySem.W.isClsIn K C = true) (t : PySem.W.typeIn K (.ref C) = some (.type "type")) (s : PySem.W.subIn K (.ref B) (.ref C) = some b) : PySem.W.exmOne K (.ref B) (.ref C) = some b := by
  unfold PySem.W.exmOne PySem.W.kitCls
  have i' : (PySem.W.clsIn K C).isSome = true := i
  rw [x]
  dsimp only
  rw [i', t, s]
  rfl
theorem ve_one {W : Addr} : PySem.HandSPX.refsVE [.ref W, .type "ValueError", .type "Exception", .type "BaseException", .type "object"] = true := by
  show PySem.HandSPX.refsVE [.type "ValueError", .type "Exception", .type "BaseException", .type "object"] = true
  decide +kernel
theorem law_ok (T : Txt K mg A) (D_is_integer : DefAt K mg "is_integer" s_is_integer pm_is_integer) (D_is_between : DefAt K mg "is_between" s_is_between pm_is_between) (D_is_index : DefAt K mg "is_index" s_is_index pm_is_index) (D_lesser : DefAt K mg "lesser" s_lesser pm_lesser) (D_check_lull : DefAt K mg "check_lull" s_check_lull pm_check_lull) (D_check_quiet : DefAt K mg "check_quiet" s_check_quiet pm_check_quiet) (D_is_sign_behind : DefAt K mg "is_sign_behind" s_is_sign_behind pm_is_sign_behind) (D_are_signs : DefAt K mg "are_signs" s_are_signs pm_are_signs) (D_stops_of : DefAt K mg "stops_of" s_stops_of pm_stops_of) (D_widest : DefAt K mg "widest" s_widest pm_widest) (D_check_limit : DefAt K mg "check_limit" s_check_limit pm_check_limit) (D_signs_do : DefAt K mg "signs_do" s_signs_do pm_signs_do) (D_latest_signs : DefAt K mg "latest_signs" s_latest_signs pm_latest_signs) (D_best_signs : DefAt K mg "best_signs" s_best_signs pm_best_signs) (D_check_count : DefAt K mg "check_count" s_check_count pm_check_count) (D_is_step : DefAt K mg "is_step" s_is_step pm_is_step) (D_is_chain : DefAt K mg "is_chain" s_is_chain pm_is_chain) (D_known_stop : DefAt K mg "known_stop" s_known_stop pm_known_stop) (D_bars : DefAt K mg "bars" s_bars pm_bars) (D_bars_signs : DefAt K mg "bars_signs" s_bars_signs pm_bars_signs) (D_chains_from : DefAt K mg "chains_from" s_chains_from pm_chains_from) (D_barring_chain : DefAt K mg "barring_chain" s_barring_chain pm_barring_chain) (D_shows_best : DefAt K mg "shows_best" s_shows_best pm_shows_best) (D__law_pool : DefAt K mg "_law_pool" s__law_pool pm__law_pool) (D__law_take : DefAt K mg "_law_take" s__law_take pm__law_take) (D__law_one : DefAt K mg "_law_one" s__law_one pm__law_one) (D__law_stops : DefAt K mg "_law_stops" s__law_stops pm__law_stops) (D__law_gap : DefAt K mg "_law_gap" s__law_gap pm__law_gap) (D__law_subsets : DefAt K mg "_law_subsets" s__law_subsets pm__law_subsets) (D__law_stop : DefAt K mg "_law_stop" s__law_stop pm__law_stop) (D__law_due : DefAt K mg "_law_due" s__law_due pm__law_due) (D__law_chain : DefAt K mg "_law_chain" s__law_chain pm__law_chain) (D__law_does : DefAt K mg "_law_does" s__law_does pm__law_does) (D__law_count_right : DefAt K mg "_law_count_right" s__law_count_right pm__law_count_right) (D__law_best_right : DefAt K mg "_law_best_right" s__law_best_right pm__law_best_right)
    (M_Lull_init : MethAt K A.Lull "__init__" "Lull.__init__" s_Lull_init pm_Lull_init) (m1_Lull : PySem.W.makesIn K A.Lull = true) (m2_Lull : PySem.W.keepIn K (.ref A.Lull) = true)
    {f : Addr} {fd : FuncData} (F : Fun K "law" "law" s_law f fd) : FnOk P w K mg base CX0 9 f fd pm_law (spLaw K) := by
  have X_BadNumber : XCls P w K mg base "BadNumber" "number" A.BadNumber := T.BadNumber.cls fun _ _ F => ok_xn F T

  have O1 : Own P w K mg base CX0 "is_integer" 1 pm_is_integer spInteger := D_is_integer.own fun f fd F => ok_integer F T
  have O2 : Own P w K mg base CX0 "is_between" 2 pm_is_between spBetween := D_is_between.own fun f fd F => ok_between F O1
  have O3 : Own P w K mg base CX0 "check_lull" 3 pm_check_lull spCheckLull := D_check_lull.own fun f fd F => ok_checkLull F T O2
  have O4 : Own P w K mg base CX0 "check_quiet" 3 pm_check_quiet spCheckQuiet := D_check_quiet.own fun f fd F => ok_checkQuiet F T O2
  have OL : OwnC P w K mg base CX0 "Lull" A.Lull 4 pm_Lull_init (spLullInit A) := M_Lull_init.cls (fun f fd F => ok_lullInit F T O2 O3 O4) m1_Lull m2_Lull T.Lull.gC
  have O5 : Own P w K mg base CX0 "is_sign_behind" 3 pm_is_sign_behind (spSign A) := D_is_sign_behind.own fun f fd F => ok_sign F T O2
  have O6 : Own P w K mg base CX0 "are_signs" 4 pm_are_signs (spAre A) := D_are_signs.own fun f fd F => ok_are F T O5
  have O6N : Own P w K mg base CX0 "are_signs" 4 pm_are_signs spAreN := D_are_signs.own fun f fd F => ok_areN F T O5
  have O7 : Own P w K mg base CX0 "stops_of" 1 pm_stops_of (spStopsOf K A) := D_stops_of.own fun f fd F => ok_stopsOf F T
  have O8 : Own P w K mg base CX0 "widest" 1 pm_widest (spWidest A) := D_widest.own fun f fd F => ok_widest F T
  have O9 : Own P w K mg base CX0 "signs_do" 5 pm_signs_do (spDo A) := D_signs_do.own fun f fd F => ok_do F T O6 O7 O8
  have O9B : Own P w K mg base CX0 "signs_do" 5 pm_signs_do (fun vs H Q E => spDo A vs H Q E ∨ spDoN A vs H Q E) := D_signs_do.own fun f fd F => FnOk.or (ok_do F T O6 O7 O8) (ok_doN F T O6N O7 O8)
  have O10 : Own P w K mg base CX0 "lesser" 1 pm_lesser spLesser := D_lesser.own fun f fd F => ok_lesser F T
  have O11 : Own P w K mg base CX0 "latest_signs" 2 pm_latest_signs (spLatest A) := D_latest_signs.own fun f fd F => ok_latest F T O10
  have O12 : Own P w K mg base (L2.CX P w) "check_limit" 4 pm_check_limit (spLimit A) := D_check_limit.own fun f fd F => ok_limit F T O2 X_BadNumber
  have OB : Own P w K mg base (L2.CX P w) "best_signs" 6 pm_best_signs (spBest A) := D_best_signs.own fun f fd F => ok_best F T O12 O9 O11
  have O13 : Own P w K mg base CX0 "is_index" 3 pm_is_index spIndex := D_is_index.own fun f fd F => ok_index F O2
  have O14 : Own P w K mg base CX0 "check_count" 3 pm_check_count (spCheckCount A) := D_check_count.own fun f fd F => ok_checkCount F T O2
  have O15 : Own P w K mg base CX0 "is_step" 1 pm_is_step (spStep A) := D_is_step.own fun f fd F => ok_step F T
  have O16 : Own P w K mg base CX0 "known_stop" 1 pm_known_stop (spKnown A) := D_known_stop.own fun f fd F => ok_known F T
  have O16B : Own P w K mg base CX0 "is_chain" 4 pm_is_chain (spChain A) := D_is_chain.own fun f fd F => ok_chain F T O13 O15
  have OBa : Own P w K mg base CX0 "bars" 5 pm_bars (spBars A) := D_bars.own fun f fd F => ok_bars F T O16B O16
  have OBS : Own P w K mg base (L2.CX P w) "bars_signs" 6 pm_bars_signs (spBarsS A) := D_bars_signs.own fun f fd F => ok_barsS F T O12 O14 OBa
  have OCF : Own P w K mg base CX0 "chains_from" 1 pm_chains_from (spChains A) := D_chains_from.own fun f fd F => ok_chains F T
  have OBC : Own P w K mg base CX0 "barring_chain" 6 pm_barring_chain (spBarring A) := D_barring_chain.own fun f fd F => ok_barring F T O12 O14 OBa OCF
  have OSB : Own P w K mg base (L2.CX P w) "shows_best" 6 pm_shows_best (spShows A) := D_shows_best.own fun f fd F => ok_shows F T O12 O9B OBa
  have O17 : Own P w K mg base CX0 "_law_pool" 1 pm__law_pool (spPool K) := D__law_pool.own fun f fd F => ok_pool F T
  have O18 : Own P w K mg base CX0 "_law_take" 1 pm__law_take spTake := D__law_take.own fun f fd F => ok_take F T
  have O19 : Own P w K mg base CX0 "_law_one" 2 pm__law_one spOne := D__law_one.own fun f fd F => ok_one F T O18
  have O20 : Own P w K mg base CX0 "_law_stops" 1 pm__law_stops (spLawStops K) := D__law_stops.own fun f fd F => ok_lawStops F T
  have O21 : Own P w K mg base CX0 "_law_gap" 2 pm__law_gap (spLawGap K) := D__law_gap.own fun f fd F => ok_lawGap F T O20
  have O22 : Own P w K mg base CX0 "_law_subsets" 1 pm__law_subsets spSubsets := D__law_subsets.own fun f fd F => ok_subsets F T
  have O23 : Own P w K mg base CX0 "_law_stop" 1 pm__law_stop (spLStop K) := D__law_stop.own fun f fd F => ok_lStop F T
  have O24 : Own P w K mg base CX0 "_law_due" 2 pm__law_due (spDueC K) := D__law_due.own fun f fd F => ok_dueC F T O23
  have O25 : Own P w K mg base CX0 "_law_chain" 3 pm__law_chain (spLChain K) := D__law_chain.own fun f fd F => ok_lChain F T O18 O19
  have O26 : Own P w K mg base CX0 "_law_does" 3 pm__law_does (spDoes K) := D__law_does.own fun f fd F => ok_does F T O22 O21
  have O27 : Own P w K mg base CX0 "_law_count_right" 7 pm__law_count_right (spCountR A) := D__law_count_right.own fun f fd F => ok_countR F T OBC O26 O24 O25 OBS
  have O28 : Own P w K mg base CX0 "_law_best_right" 7 pm__law_best_right (spBestR A) := D__law_best_right.own fun f fd F => ok_bestR F T OBC OB OSB
  obtain ⟨fB, hB, OA⟩ := OBS.at_
  obtain ⟨fS, hS, OS⟩ := OSB.at_
  exact ok_law F T hB hS O17 O18 OL O27 O28 OA OS
end
theorem all_mk {P : Program} {w : World} {K : PySem.W.Frag} {h : Heap} {mg : Str → Option Value} {fa   ABadNumber AWholeError ALull f_is_integer f_is_between f_is_index f_lesser f_check_lull f_check_quiet f_is_sign_behind f_are_signs f_stops_of f_widest f_check_limit f_signs_do f_latest_signs f_best_signs f_check_count f_is_step f_is_chain f_known_stop f_bars f_bars_signs f_chains_from f_barring_chain f_shows_best f__law_pool f__law_take f__law_one f__law_stops f__law_gap f__law_subsets f__law_stop f__law_due f__law_chain f__law_does f__law_count_right f__law_best_right f_law f_BadNumber_init f_Lull_init : Addr} (X : K.In h) (G : h.Ns mainGlobals mg) (hfa : mg "law" = some (.ref fa))
    {od_is_integer an_is_integer od_is_between an_is_between od_is_index an_is_index od_lesser an_lesser od_check_lull an_check_lull od_check_quiet an_check_quiet od_is_sign_behind an_is_sign_behind od_are_signs an_are_signs od_stops_of an_stops_of od_widest an_widest od_check_limit an_check_limit od_signs_do an_signs_do od_latest_signs an_latest_signs od_best_signs an_best_signs od_check_count an_check_count od_is_step an_is_step od_is_chain an_is_chain od_known_stop an_known_stop od_bars an_bars od_bars_signs an_bars_signs od_chains_from an_chains_from od_barring_chain an_barring_chain od_shows_best an_shows_best od__law_pool an__law_pool od__law_take an__law_take od__law_one an__law_one od__law_stops an__law_stops od__law_gap an__law_gap od__law_subsets an__law_subsets od__law_stop an__law_stop od__law_due an__law_due od__law_chain an__law_chain od__law_does an__law_does od__law_count_right an__law_count_right od__law_best_right an__law_best_right od_law an_law od_BadNumber_init an_BadNumber_init od_Lull_init an_Lull_init : Option Addr} {sl_is_integer sl_is_between sl_is_index sl_lesser sl_check_lull sl_check_quiet sl_is_sign_behind sl_are_signs sl_stops_of sl_widest sl_check_limit sl_signs_do sl_latest_signs sl_best_signs sl_check_count sl_is_step sl_is_chain sl_known_stop sl_bars sl_bars_signs sl_chains_from sl_barring_chain sl_shows_best sl__law_pool sl__law_take sl__law_one sl__law_stops sl__law_gap sl__law_subsets sl__law_stop sl__law_due sl__law_chain sl__law_does sl__law_count_right sl__law_best_right sl_law sl_BadNumber_init sl_Lull_init : Array (Option Value)} {oc_is_integer kV_is_integer dc_is_integer pm_is_integer_ cd_is_integer ct_is_integer oc_is_between kV_is_between dc_is_between pm_is_between_ cd_is_between ct_is_between oc_is_index kV_is_index dc_is_index pm_is_index_ cd_is_index ct_is_index oc_lesser kV_lesser dc_lesser pm_lesser_ cd_lesser ct_lesser oc_check_lull kV_check_lull dc_check_lull pm_check_lull_ cd_check_lull ct_check_lull oc_check_quiet kV_check_quiet dc_check_quiet pm_check_quiet_ cd_check_quiet ct_check_quiet oc_is_sign_behind kV_is_sign_behind dc_is_sign_behind pm_is_sign_behind_ cd_is_sign_behind ct_is_sign_behind oc_are_signs kV_are_signs dc_are_signs pm_are_signs_ cd_are_signs ct_are_signs oc_stops_of kV_stops_of dc_stops_of pm_stops_of_ cd_stops_of ct_stops_of oc_widest kV_widest dc_widest pm_widest_ cd_widest ct_widest oc_check_limit kV_check_limit dc_check_limit pm_check_limit_ cd_check_limit ct_check_limit oc_signs_do kV_signs_do dc_signs_do pm_signs_do_ cd_signs_do ct_signs_do oc_latest_signs kV_latest_signs dc_latest_signs pm_latest_signs_ cd_latest_signs ct_latest_signs oc_best_signs kV_best_signs dc_best_signs pm_best_signs_ cd_best_signs ct_best_signs oc_check_count kV_check_count dc_check_count pm_check_count_ cd_check_count ct_check_count oc_is_step kV_is_step dc_is_step pm_is_step_ cd_is_step ct_is_step oc_is_chain kV_is_chain dc_is_chain pm_is_chain_ cd_is_chain ct_is_chain oc_known_stop kV_known_stop dc_known_stop pm_known_stop_ cd_known_stop ct_known_stop oc_bars kV_bars dc_bars pm_bars_ cd_bars ct_bars oc_bars_signs kV_bars_signs dc_bars_signs pm_bars_signs_ cd_bars_signs ct_bars_signs oc_chains_from kV_chains_from dc_chains_from pm_chains_from_ cd_chains_from ct_chains_from oc_barring_chain kV_barring_chain dc_barring_chain pm_barring_chain_ cd_barring_chain ct_barring_chain oc_shows_best kV_shows_best dc_shows_best pm_shows_best_ cd_shows_best ct_shows_best oc__law_pool kV__law_pool dc__law_pool pm__law_pool_ cd__law_pool ct__law_pool oc__law_take kV__law_take dc__law_take pm__law_take_ cd__law_take ct__law_take oc__law_one kV__law_one dc__law_one pm__law_one_ cd__law_one ct__law_one oc__law_stops kV__law_stops dc__law_stops pm__law_stops_ cd__law_stops ct__law_stops oc__law_gap kV__law_gap dc__law_gap pm__law_gap_ cd__law_gap ct__law_gap oc__law_subsets kV__law_subsets dc__law_subsets pm__law_subsets_ cd__law_subsets ct__law_subsets oc__law_stop kV__law_stop dc__law_stop pm__law_stop_ cd__law_stop ct__law_stop oc__law_due kV__law_due dc__law_due pm__law_due_ cd__law_due ct__law_due oc__law_chain kV__law_chain dc__law_chain pm__law_chain_ cd__law_chain ct__law_chain oc__law_does kV__law_does dc__law_does pm__law_does_ cd__law_does ct__law_does oc__law_count_right kV__law_count_right dc__law_count_right pm__law_count_right_ cd__law_count_right ct__law_count_right oc__law_best_right kV__law_best_right dc__law_best_right pm__law_best_right_ cd__law_best_right ct__law_best_right oc_law kV_law dc_law pm_law_ cd_law ct_law oc_BadNumber_init kV_BadNumber_init dc_BadNumber_init pm_BadNumber_init_ cd_BadNumber_init ct_BadNumber_init oc_Lull_init kV_Lull_init dc_Lull_init pm_Lull_init_ cd_Lull_init ct_Lull_init : Value} {t_MOST_DELAY t_MOST_TURN t_MOST_QUIET t_MOST_LOST t_MOST_LIMIT : Tok}
    {xBadNumber_nm xBadNumber_q : Str} {xBadNumber_N : Addr} {xBadNumber_bs : List Value} {xBadNumber_sn : List Str} {xBadNumber_sub : List Value} {xBadNumber_ab : Bool} {xBadNumber_col : Option Bool} {xBadNumber_dd : Option Addr} {xBadNumber_m0 xBadNumber_m1 xBadNumber_m2 xBadNumber_m3 xBadNumber_m5 : Option Value}
    (g_BadNumber : PySem.W.nsIn K mainGlobals "BadNumber" = some (some (.ref ABadNumber)))
    (g_WholeError : PySem.W.nsIn K mainGlobals "WholeError" = some (some (.ref AWholeError)))
    (g_Lull : PySem.W.nsIn K mainGlobals "Lull" = some (some (.ref ALull)))
    (a_is_integer : PySem.W.nsIn K mainGlobals "is_integer" = some (some (.ref f_is_integer)))
    (l_is_integer : K.lookup f_is_integer = some ⟨oc_is_integer, od_is_integer, .func (PySem.W.fnOf "is_integer" "is_integer" (defArgs s_is_integer) (defBody s_is_integer) (defScope s_is_integer) .none kV_is_integer dc_is_integer pm_is_integer_ an_is_integer cd_is_integer ct_is_integer), sl_is_integer⟩)
    (c_is_integer : PySem.W.codeIn K cd_is_integer "is_integer" = true)
    (k_is_integer : PySem.W.keepIn K (.ref f_is_integer) = true)
    (a_is_between : PySem.W.nsIn K mainGlobals "is_between" = some (some (.ref f_is_between)))
    (l_is_between : K.lookup f_is_between = some ⟨oc_is_between, od_is_between, .func (PySem.W.fnOf "is_between" "is_between" (defArgs s_is_between) (defBody s_is_between) (defScope s_is_between) .none kV_is_between dc_is_between pm_is_between_ an_is_between cd_is_between ct_is_between), sl_is_between⟩)
    (c_is_between : PySem.W.codeIn K cd_is_between "is_between" = true)
    (k_is_between : PySem.W.keepIn K (.ref f_is_between) = true)
    (a_is_index : PySem.W.nsIn K mainGlobals "is_index" = some (some (.ref f_is_index)))
    (l_is_index : K.lookup f_is_index = some ⟨oc_is_index, od_is_index, .func (PySem.W.fnOf "is_index" "is_index" (defArgs s_is_index) (defBody s_is_index) (defScope s_is_index) .none kV_is_index dc_is_index pm_is_index_ an_is_index cd_is_index ct_is_index), sl_is_index⟩)
    (c_is_index : PySem.W.codeIn K cd_is_index "is_index" = true)
    (k_is_index : PySem.W.keepIn K (.ref f_is_index) = true)
    (a_lesser : PySem.W.nsIn K mainGlobals "lesser" = some (some (.ref f_lesser)))
    (l_lesser : K.lookup f_lesser = some ⟨oc_lesser, od_lesser, .func (PySem.W.fnOf "lesser" "lesser" (defArgs s_lesser) (defBody s_lesser) (defScope s_lesser) .none kV_lesser dc_lesser pm_lesser_ an_lesser cd_lesser ct_lesser), sl_lesser⟩)
    (c_lesser : PySem.W.codeIn K cd_lesser "lesser" = true)
    (k_lesser : PySem.W.keepIn K (.ref f_lesser) = true)
    (a_check_lull : PySem.W.nsIn K mainGlobals "check_lull" = some (some (.ref f_check_lull)))
    (l_check_lull : K.lookup f_check_lull = some ⟨oc_check_lull, od_check_lull, .func (PySem.W.fnOf "check_lull" "check_lull" (defArgs s_check_lull) (defBody s_check_lull) (defScope s_check_lull) .none kV_check_lull dc_check_lull pm_check_lull_ an_check_lull cd_check_lull ct_check_lull), sl_check_lull⟩)
    (c_check_lull : PySem.W.codeIn K cd_check_lull "check_lull" = true)
    (k_check_lull : PySem.W.keepIn K (.ref f_check_lull) = true)
    (a_check_quiet : PySem.W.nsIn K mainGlobals "check_quiet" = some (some (.ref f_check_quiet)))
    (l_check_quiet : K.lookup f_check_quiet = some ⟨oc_check_quiet, od_check_quiet, .func (PySem.W.fnOf "check_quiet" "check_quiet" (defArgs s_check_quiet) (defBody s_check_quiet) (defScope s_check_quiet) .none kV_check_quiet dc_check_quiet pm_check_quiet_ an_check_quiet cd_check_quiet ct_check_quiet), sl_check_quiet⟩)
    (c_check_quiet : PySem.W.codeIn K cd_check_quiet "check_quiet" = true)
    (k_check_quiet : PySem.W.keepIn K (.ref f_check_quiet) = true)
    (a_is_sign_behind : PySem.W.nsIn K mainGlobals "is_sign_behind" = some (some (.ref f_is_sign_behind)))
    (l_is_sign_behind : K.lookup f_is_sign_behind = some ⟨oc_is_sign_behind, od_is_sign_behind, .func (PySem.W.fnOf "is_sign_behind" "is_sign_behind" (defArgs s_is_sign_behind) (defBody s_is_sign_behind) (defScope s_is_sign_behind) .none kV_is_sign_behind dc_is_sign_behind pm_is_sign_behind_ an_is_sign_behind cd_is_sign_behind ct_is_sign_behind), sl_is_sign_behind⟩)
    (c_is_sign_behind : PySem.W.codeIn K cd_is_sign_behind "is_sign_behind" = true)
    (k_is_sign_behind : PySem.W.keepIn K (.ref f_is_sign_behind) = true)
    (a_are_signs : PySem.W.nsIn K mainGlobals "are_signs" = some (some (.ref f_are_signs)))
    (l_are_signs : K.lookup f_are_signs = some ⟨oc_are_signs, od_are_signs, .func (PySem.W.fnOf "are_signs" "are_signs" (defArgs s_are_signs) (defBody s_are_signs) (defScope s_are_signs) .none kV_are_signs dc_are_signs pm_are_signs_ an_are_signs cd_are_signs ct_are_signs), sl_are_signs⟩)
    (c_are_signs : PySem.W.codeIn K cd_are_signs "are_signs" = true)
    (k_are_signs : PySem.W.keepIn K (.ref f_are_signs) = true)
    (a_stops_of : PySem.W.nsIn K mainGlobals "stops_of" = some (some (.ref f_stops_of)))
    (l_stops_of : K.lookup f_stops_of = some ⟨oc_stops_of, od_stops_of, .func (PySem.W.fnOf "stops_of" "stops_of" (defArgs s_stops_of) (defBody s_stops_of) (defScope s_stops_of) .none kV_stops_of dc_stops_of pm_stops_of_ an_stops_of cd_stops_of ct_stops_of), sl_stops_of⟩)
    (c_stops_of : PySem.W.codeIn K cd_stops_of "stops_of" = true)
    (k_stops_of : PySem.W.keepIn K (.ref f_stops_of) = true)
    (a_widest : PySem.W.nsIn K mainGlobals "widest" = some (some (.ref f_widest)))
    (l_widest : K.lookup f_widest = some ⟨oc_widest, od_widest, .func (PySem.W.fnOf "widest" "widest" (defArgs s_widest) (defBody s_widest) (defScope s_widest) .none kV_widest dc_widest pm_widest_ an_widest cd_widest ct_widest), sl_widest⟩)
    (c_widest : PySem.W.codeIn K cd_widest "widest" = true)
    (k_widest : PySem.W.keepIn K (.ref f_widest) = true)
    (a_check_limit : PySem.W.nsIn K mainGlobals "check_limit" = some (some (.ref f_check_limit)))
    (l_check_limit : K.lookup f_check_limit = some ⟨oc_check_limit, od_check_limit, .func (PySem.W.fnOf "check_limit" "check_limit" (defArgs s_check_limit) (defBody s_check_limit) (defScope s_check_limit) .none kV_check_limit dc_check_limit pm_check_limit_ an_check_limit cd_check_limit ct_check_limit), sl_check_limit⟩)
    (c_check_limit : PySem.W.codeIn K cd_check_limit "check_limit" = true)
    (k_check_limit : PySem.W.keepIn K (.ref f_check_limit) = true)
    (a_signs_do : PySem.W.nsIn K mainGlobals "signs_do" = some (some (.ref f_signs_do)))
    (l_signs_do : K.lookup f_signs_do = some ⟨oc_signs_do, od_signs_do, .func (PySem.W.fnOf "signs_do" "signs_do" (defArgs s_signs_do) (defBody s_signs_do) (defScope s_signs_do) .none kV_signs_do dc_signs_do pm_signs_do_ an_signs_do cd_signs_do ct_signs_do), sl_signs_do⟩)
    (c_signs_do : PySem.W.codeIn K cd_signs_do "signs_do" = true)
    (k_signs_do : PySem.W.keepIn K (.ref f_signs_do) = true)
    (a_latest_signs : PySem.W.nsIn K mainGlobals "latest_signs" = some (some (.ref f_latest_signs)))
    (l_latest_signs : K.lookup f_latest_signs = some ⟨oc_latest_signs, od_latest_signs, .func (PySem.W.fnOf "latest_signs" "latest_signs" (defArgs s_latest_signs) (defBody s_latest_signs) (defScope s_latest_signs) .none kV_latest_signs dc_latest_signs pm_latest_signs_ an_latest_signs cd_latest_signs ct_latest_signs), sl_latest_signs⟩)
    (c_latest_signs : PySem.W.codeIn K cd_latest_signs "latest_signs" = true)
    (k_latest_signs : PySem.W.keepIn K (.ref f_latest_signs) = true)
    (a_best_signs : PySem.W.nsIn K mainGlobals "best_signs" = some (some (.ref f_best_signs)))
    (l_best_signs : K.lookup f_best_signs = some ⟨oc_best_signs, od_best_signs, .func (PySem.W.fnOf "best_signs" "best_signs" (defArgs s_best_signs) (defBody s_best_signs) (defScope s_best_signs) .none kV_best_signs dc_best_signs pm_best_signs_ an_best_signs cd_best_signs ct_best_signs), sl_best_signs⟩)
    (c_best_signs : PySem.W.codeIn K cd_best_signs "best_signs" = true)
    (k_best_signs : PySem.W.keepIn K (.ref f_best_signs) = true)
    (a_check_count : PySem.W.nsIn K mainGlobals "check_count" = some (some (.ref f_check_count)))
    (l_check_count : K.lookup f_check_count = some ⟨oc_check_count, od_check_count, .func (PySem.W.fnOf "check_count" "check_count" (defArgs s_check_count) (defBody s_check_count) (defScope s_check_count) .none kV_check_count dc_check_count pm_check_count_ an_check_count cd_check_count ct_check_count), sl_check_count⟩)
    (c_check_count : PySem.W.codeIn K cd_check_count "check_count" = true)
    (k_check_count : PySem.W.keepIn K (.ref f_check_count) = true)
    (a_is_step : PySem.W.nsIn K mainGlobals "is_step" = some (some (.ref f_is_step)))
    (l_is_step : K.lookup f_is_step = some ⟨oc_is_step, od_is_step, .func (PySem.W.fnOf "is_step" "is_step" (defArgs s_is_step) (defBody s_is_step) (defScope s_is_step) .none kV_is_step dc_is_step pm_is_step_ an_is_step cd_is_step ct_is_step), sl_is_step⟩)
    (c_is_step : PySem.W.codeIn K cd_is_step "is_step" = true)
    (k_is_step : PySem.W.keepIn K (.ref f_is_step) = true)
    (a_is_chain : PySem.W.nsIn K mainGlobals "is_chain" = some (some (.ref f_is_chain)))
    (l_is_chain : K.lookup f_is_chain = some ⟨oc_is_chain, od_is_chain, .func (PySem.W.fnOf "is_chain" "is_chain" (defArgs s_is_chain) (defBody s_is_chain) (defScope s_is_chain) .none kV_is_chain dc_is_chain pm_is_chain_ an_is_chain cd_is_chain ct_is_chain), sl_is_chain⟩)
    (c_is_chain : PySem.W.codeIn K cd_is_chain "is_chain" = true)
    (k_is_chain : PySem.W.keepIn K (.ref f_is_chain) = true)
    (a_known_stop : PySem.W.nsIn K mainGlobals "known_stop" = some (some (.ref f_known_stop)))
    (l_known_stop : K.lookup f_known_stop = some ⟨oc_known_stop, od_known_stop, .func (PySem.W.fnOf "known_stop" "known_stop" (defArgs s_known_stop) (defBody s_known_stop) (defScope s_known_stop) .none kV_known_stop dc_known_stop pm_known_stop_ an_known_stop cd_known_stop ct_known_stop), sl_known_stop⟩)
    (c_known_stop : PySem.W.codeIn K cd_known_stop "known_stop" = true)
    (k_known_stop : PySem.W.keepIn K (.ref f_known_stop) = true)
    (a_bars : PySem.W.nsIn K mainGlobals "bars" = some (some (.ref f_bars)))
    (l_bars : K.lookup f_bars = some ⟨oc_bars, od_bars, .func (PySem.W.fnOf "bars" "bars" (defArgs s_bars) (defBody s_bars) (defScope s_bars) .none kV_bars dc_bars pm_bars_ an_bars cd_bars ct_bars), sl_bars⟩)
    (c_bars : PySem.W.codeIn K cd_bars "bars" = true)
    (k_bars : PySem.W.keepIn K (.ref f_bars) = true)
    (a_bars_signs : PySem.W.nsIn K mainGlobals "bars_signs" = some (some (.ref f_bars_signs)))
    (l_bars_signs : K.lookup f_bars_signs = some ⟨oc_bars_signs, od_bars_signs, .func (PySem.W.fnOf "bars_signs" "bars_signs" (defArgs s_bars_signs) (defBody s_bars_signs) (defScope s_bars_signs) .none kV_bars_signs dc_bars_signs pm_bars_signs_ an_bars_signs cd_bars_signs ct_bars_signs), sl_bars_signs⟩)
    (c_bars_signs : PySem.W.codeIn K cd_bars_signs "bars_signs" = true)
    (k_bars_signs : PySem.W.keepIn K (.ref f_bars_signs) = true)
    (a_chains_from : PySem.W.nsIn K mainGlobals "chains_from" = some (some (.ref f_chains_from)))
    (l_chains_from : K.lookup f_chains_from = some ⟨oc_chains_from, od_chains_from, .func (PySem.W.fnOf "chains_from" "chains_from" (defArgs s_chains_from) (defBody s_chains_from) (defScope s_chains_from) .none kV_chains_from dc_chains_from pm_chains_from_ an_chains_from cd_chains_from ct_chains_from), sl_chains_from⟩)
    (c_chains_from : PySem.W.codeIn K cd_chains_from "chains_from" = true)
    (k_chains_from : PySem.W.keepIn K (.ref f_chains_from) = true)
    (a_barring_chain : PySem.W.nsIn K mainGlobals "barring_chain" = some (some (.ref f_barring_chain)))
    (l_barring_chain : K.lookup f_barring_chain = some ⟨oc_barring_chain, od_barring_chain, .func (PySem.W.fnOf "barring_chain" "barring_chain" (defArgs s_barring_chain) (defBody s_barring_chain) (defScope s_barring_chain) .none kV_barring_chain dc_barring_chain pm_barring_chain_ an_barring_chain cd_barring_chain ct_barring_chain), sl_barring_chain⟩)
    (c_barring_chain : PySem.W.codeIn K cd_barring_chain "barring_chain" = true)
    (k_barring_chain : PySem.W.keepIn K (.ref f_barring_chain) = true)
    (a_shows_best : PySem.W.nsIn K mainGlobals "shows_best" = some (some (.ref f_shows_best)))
    (l_shows_best : K.lookup f_shows_best = some ⟨oc_shows_best, od_shows_best, .func (PySem.W.fnOf "shows_best" "shows_best" (defArgs s_shows_best) (defBody s_shows_best) (defScope s_shows_best) .none kV_shows_best dc_shows_best pm_shows_best_ an_shows_best cd_shows_best ct_shows_best), sl_shows_best⟩)
    (c_shows_best : PySem.W.codeIn K cd_shows_best "shows_best" = true)
    (k_shows_best : PySem.W.keepIn K (.ref f_shows_best) = true)
    (a__law_pool : PySem.W.nsIn K mainGlobals "_law_pool" = some (some (.ref f__law_pool)))
    (l__law_pool : K.lookup f__law_pool = some ⟨oc__law_pool, od__law_pool, .func (PySem.W.fnOf "_law_pool" "_law_pool" (defArgs s__law_pool) (defBody s__law_pool) (defScope s__law_pool) .none kV__law_pool dc__law_pool pm__law_pool_ an__law_pool cd__law_pool ct__law_pool), sl__law_pool⟩)
    (c__law_pool : PySem.W.codeIn K cd__law_pool "_law_pool" = true)
    (k__law_pool : PySem.W.keepIn K (.ref f__law_pool) = true)
    (a__law_take : PySem.W.nsIn K mainGlobals "_law_take" = some (some (.ref f__law_take)))
    (l__law_take : K.lookup f__law_take = some ⟨oc__law_take, od__law_take, .func (PySem.W.fnOf "_law_take" "_law_take" (defArgs s__law_take) (defBody s__law_take) (defScope s__law_take) .none kV__law_take dc__law_take pm__law_take_ an__law_take cd__law_take ct__law_take), sl__law_take⟩)
    (c__law_take : PySem.W.codeIn K cd__law_take "_law_take" = true)
    (k__law_take : PySem.W.keepIn K (.ref f__law_take) = true)
    (a__law_one : PySem.W.nsIn K mainGlobals "_law_one" = some (some (.ref f__law_one)))
    (l__law_one : K.lookup f__law_one = some ⟨oc__law_one, od__law_one, .func (PySem.W.fnOf "_law_one" "_law_one" (defArgs s__law_one) (defBody s__law_one) (defScope s__law_one) .none kV__law_one dc__law_one pm__law_one_ an__law_one cd__law_one ct__law_one), sl__law_one⟩)
    (c__law_one : PySem.W.codeIn K cd__law_one "_law_one" = true)
    (k__law_one : PySem.W.keepIn K (.ref f__law_one) = true)
    (a__law_stops : PySem.W.nsIn K mainGlobals "_law_stops" = some (some (.ref f__law_stops)))
    (l__law_stops : K.lookup f__law_stops = some ⟨oc__law_stops, od__law_stops, .func (PySem.W.fnOf "_law_stops" "_law_stops" (defArgs s__law_stops) (defBody s__law_stops) (defScope s__law_stops) .none kV__law_stops dc__law_stops pm__law_stops_ an__law_stops cd__law_stops ct__law_stops), sl__law_stops⟩)
    (c__law_stops : PySem.W.codeIn K cd__law_stops "_law_stops" = true)
    (k__law_stops : PySem.W.keepIn K (.ref f__law_stops) = true)
    (a__law_gap : PySem.W.nsIn K mainGlobals "_law_gap" = some (some (.ref f__law_gap)))
    (l__law_gap : K.lookup f__law_gap = some ⟨oc__law_gap, od__law_gap, .func (PySem.W.fnOf "_law_gap" "_law_gap" (defArgs s__law_gap) (defBody s__law_gap) (defScope s__law_gap) .none kV__law_gap dc__law_gap pm__law_gap_ an__law_gap cd__law_gap ct__law_gap), sl__law_gap⟩)
    (c__law_gap : PySem.W.codeIn K cd__law_gap "_law_gap" = true)
    (k__law_gap : PySem.W.keepIn K (.ref f__law_gap) = true)
    (a__law_subsets : PySem.W.nsIn K mainGlobals "_law_subsets" = some (some (.ref f__law_subsets)))
    (l__law_subsets : K.lookup f__law_subsets = some ⟨oc__law_subsets, od__law_subsets, .func (PySem.W.fnOf "_law_subsets" "_law_subsets" (defArgs s__law_subsets) (defBody s__law_subsets) (defScope s__law_subsets) .none kV__law_subsets dc__law_subsets pm__law_subsets_ an__law_subsets cd__law_subsets ct__law_subsets), sl__law_subsets⟩)
    (c__law_subsets : PySem.W.codeIn K cd__law_subsets "_law_subsets" = true)
    (k__law_subsets : PySem.W.keepIn K (.ref f__law_subsets) = true)
    (a__law_stop : PySem.W.nsIn K mainGlobals "_law_stop" = some (some (.ref f__law_stop)))
    (l__law_stop : K.lookup f__law_stop = some ⟨oc__law_stop, od__law_stop, .func (PySem.W.fnOf "_law_stop" "_law_stop" (defArgs s__law_stop) (defBody s__law_stop) (defScope s__law_stop) .none kV__law_stop dc__law_stop pm__law_stop_ an__law_stop cd__law_stop ct__law_stop), sl__law_stop⟩)
    (c__law_stop : PySem.W.codeIn K cd__law_stop "_law_stop" = true)
    (k__law_stop : PySem.W.keepIn K (.ref f__law_stop) = true)
    (a__law_due : PySem.W.nsIn K mainGlobals "_law_due" = some (some (.ref f__law_due)))
    (l__law_due : K.lookup f__law_due = some ⟨oc__law_due, od__law_due, .func (PySem.W.fnOf "_law_due" "_law_due" (defArgs s__law_due) (defBody s__law_due) (defScope s__law_due) .none kV__law_due dc__law_due pm__law_due_ an__law_due cd__law_due ct__law_due), sl__law_due⟩)
    (c__law_due : PySem.W.codeIn K cd__law_due "_law_due" = true)
    (k__law_due : PySem.W.keepIn K (.ref f__law_due) = true)
    (a__law_chain : PySem.W.nsIn K mainGlobals "_law_chain" = some (some (.ref f__law_chain)))
    (l__law_chain : K.lookup f__law_chain = some ⟨oc__law_chain, od__law_chain, .func (PySem.W.fnOf "_law_chain" "_law_chain" (defArgs s__law_chain) (defBody s__law_chain) (defScope s__law_chain) .none kV__law_chain dc__law_chain pm__law_chain_ an__law_chain cd__law_chain ct__law_chain), sl__law_chain⟩)
    (c__law_chain : PySem.W.codeIn K cd__law_chain "_law_chain" = true)
    (k__law_chain : PySem.W.keepIn K (.ref f__law_chain) = true)
    (a__law_does : PySem.W.nsIn K mainGlobals "_law_does" = some (some (.ref f__law_does)))
    (l__law_does : K.lookup f__law_does = some ⟨oc__law_does, od__law_does, .func (PySem.W.fnOf "_law_does" "_law_does" (defArgs s__law_does) (defBody s__law_does) (defScope s__law_does) .none kV__law_does dc__law_does pm__law_does_ an__law_does cd__law_does ct__law_does), sl__law_does⟩)
    (c__law_does : PySem.W.codeIn K cd__law_does "_law_does" = true)
    (k__law_does : PySem.W.keepIn K (.ref f__law_does) = true)
    (a__law_count_right : PySem.W.nsIn K mainGlobals "_law_count_right" = some (some (.ref f__law_count_right)))
    (l__law_count_right : K.lookup f__law_count_right = some ⟨oc__law_count_right, od__law_count_right, .func (PySem.W.fnOf "_law_count_right" "_law_count_right" (defArgs s__law_count_right) (defBody s__law_count_right) (defScope s__law_count_right) .none kV__law_count_right dc__law_count_right pm__law_count_right_ an__law_count_right cd__law_count_right ct__law_count_right), sl__law_count_right⟩)
    (c__law_count_right : PySem.W.codeIn K cd__law_count_right "_law_count_right" = true)
    (k__law_count_right : PySem.W.keepIn K (.ref f__law_count_right) = true)
    (a__law_best_right : PySem.W.nsIn K mainGlobals "_law_best_right" = some (some (.ref f__law_best_right)))
    (l__law_best_right : K.lookup f__law_best_right = some ⟨oc__law_best_right, od__law_best_right, .func (PySem.W.fnOf "_law_best_right" "_law_best_right" (defArgs s__law_best_right) (defBody s__law_best_right) (defScope s__law_best_right) .none kV__law_best_right dc__law_best_right pm__law_best_right_ an__law_best_right cd__law_best_right ct__law_best_right), sl__law_best_right⟩)
    (c__law_best_right : PySem.W.codeIn K cd__law_best_right "_law_best_right" = true)
    (k__law_best_right : PySem.W.keepIn K (.ref f__law_best_right) = true)
    (a_law : PySem.W.nsIn K mainGlobals "law" = some (some (.ref f_law)))
    (l_law : K.lookup f_law = some ⟨oc_law, od_law, .func (PySem.W.fnOf "law" "law" (defArgs s_law) (defBody s_law) (defScope s_law) .none kV_law dc_law pm_law_ an_law cd_law ct_law), sl_law⟩)
    (c_law : PySem.W.codeIn K cd_law "law" = true)
    (k_law : PySem.W.keepIn K (.ref f_law) = true)
    (a_BadNumber_init : PySem.W.findIn K (.ref ABadNumber) "__init__" = some (some (.ref f_BadNumber_init)))
    (i_BadNumber_init : PySem.W.typeIn K (.ref f_BadNumber_init) = some (.type "function"))
    (l_BadNumber_init : K.lookup f_BadNumber_init = some ⟨oc_BadNumber_init, od_BadNumber_init, .func (PySem.W.fnOf "__init__" "BadNumber.__init__" (defArgs s_BadNumber_init) (defBody s_BadNumber_init) (defScope s_BadNumber_init) .none kV_BadNumber_init dc_BadNumber_init pm_BadNumber_init_ an_BadNumber_init cd_BadNumber_init ct_BadNumber_init), sl_BadNumber_init⟩)
    (c_BadNumber_init : PySem.W.codeIn K cd_BadNumber_init "BadNumber.__init__" = true)
    (k_BadNumber_init : PySem.W.keepIn K (.ref f_BadNumber_init) = true)
    (a_Lull_init : PySem.W.findIn K (.ref ALull) "__init__" = some (some (.ref f_Lull_init)))
    (i_Lull_init : PySem.W.isFn K (.ref f_Lull_init) = true)
    (l_Lull_init : K.lookup f_Lull_init = some ⟨oc_Lull_init, od_Lull_init, .func (PySem.W.fnOf "__init__" "Lull.__init__" (defArgs s_Lull_init) (defBody s_Lull_init) (defScope s_Lull_init) .none kV_Lull_init dc_Lull_init pm_Lull_init_ an_Lull_init cd_Lull_init ct_Lull_init), sl_Lull_init⟩)
    (c_Lull_init : PySem.W.codeIn K cd_Lull_init "Lull.__init__" = true)
    (k_Lull_init : PySem.W.keepIn K (.ref f_Lull_init) = true)
    (n_isinstance : PySem.W.nsIn K mainGlobals "isinstance" = some none)
    (n_int : PySem.W.nsIn K mainGlobals "int" = some none)
    (n_bool : PySem.W.nsIn K mainGlobals "bool" = some none)
    (n_list : PySem.W.nsIn K mainGlobals "list" = some none)
    (n_tuple : PySem.W.nsIn K mainGlobals "tuple" = some none)
    (n_len : PySem.W.nsIn K mainGlobals "len" = some none)
    (n_range : PySem.W.nsIn K mainGlobals "range" = some none)
    (n_zip : PySem.W.nsIn K mainGlobals "zip" = some none)
    (n_max : PySem.W.nsIn K mainGlobals "max" = some none)
    (n_min : PySem.W.nsIn K mainGlobals "min" = some none)
    (n_all : PySem.W.nsIn K mainGlobals "all" = some none)
    (v_MOST_DELAY : PySem.W.nsIn K mainGlobals "MOST_DELAY" = some (some (.int 50 t_MOST_DELAY)))
    (v_MOST_TURN : PySem.W.nsIn K mainGlobals "MOST_TURN" = some (some (.int 200 t_MOST_TURN)))
    (v_MOST_QUIET : PySem.W.nsIn K mainGlobals "MOST_QUIET" = some (some (.int 500 t_MOST_QUIET)))
    (v_MOST_LOST : PySem.W.nsIn K mainGlobals "MOST_LOST" = some (some (.int 3 t_MOST_LOST)))
    (v_MOST_LIMIT : PySem.W.nsIn K mainGlobals "MOST_LIMIT" = some (some (.int 20000 t_MOST_LIMIT)))
    (s_hn : PySem.W.specialIn K (.builtin "object.__class__") "__get__" = some (some (.builtin "getset_descriptor.__get__")))
    (s_tk : PySem.W.takesIn K (.builtin "object.__class__") = some true)
    (pg_Lull : PySem.W.plainGet K ALull Str.empty = true)
    (hd_Lull : PySem.W.hasDictIn K ALull = true)
    (po_Lull : PySem.W.plainOver K ALull = true)
    (sa_Lull : PySem.W.findIn K (.ref ALull) "__setattr__" = some (some (.builtin "object.__setattr__")))
    (ha_Lull : PySem.W.findIn K (.ref ALull) "__class__" = some (some (.builtin "object.__class__")))
    (hm_Lull : PySem.W.mroIn K ALull (.type "object") = some true)
    (ne_Lull : PySem.W.findIn K (.ref ALull) "__ne__" = some (some (.builtin "object.__ne__")))
    (is_Lull : PySem.W.isClsIn K ALull = true)
    (ty_Lull : PySem.W.typeIn K (.ref ALull) = some (.type "type"))
    (tup_Lull : PySem.W.subIn K (.ref ALull) (.type "tuple") = some false)
    (lst_Lull : PySem.W.subIn K (.ref ALull) (.type "list") = some false)
    (int_Lull : PySem.W.subIn K (.ref ALull) (.type "int") = some false)
    (str_Lull : PySem.W.subIn K (.ref ALull) (.type "str") = some false)
    (mk_Lull : PySem.W.makesIn K ALull = true)
    (kc_Lull : PySem.W.keepIn K (.ref ALull) = true)
    (na_Lull_delay : PySem.W.findIn K (.ref ALull) "delay" = some none)
    (na_Lull_turn : PySem.W.findIn K (.ref ALull) "turn" = some none)
    (na_Lull_losses : PySem.W.findIn K (.ref ALull) "losses" = some none)
    (na_Lull_quiet : PySem.W.findIn K (.ref ALull) "quiet" = some none)
    (xBadNumber_L : K.lookup ABadNumber = some (excClassObj xBadNumber_nm xBadNumber_q ABadNumber xBadNumber_N xBadNumber_bs [.ref AWholeError, .type "ValueError", .type "Exception", .type "BaseException", .type "object"] true xBadNumber_sn xBadNumber_sub xBadNumber_ab xBadNumber_col xBadNumber_dd xBadNumber_m0 xBadNumber_m1 xBadNumber_m2 xBadNumber_m3 xBadNumber_m5 "ValueError.__new__"))
    (xBadNumber_sa : PySem.W.findIn K (.ref ABadNumber) "__setattr__" = some (some (.builtin "object.__setattr__")))
    (xBadNumber_ex : PySem.W.subIn K (.ref ABadNumber) (.type "BaseException") = some true)
    (xBadNumber_ty : PySem.W.typeIn K (.ref ABadNumber) = some (.type "type"))
    (xBadNumber_kC : PySem.W.keepIn K (.ref ABadNumber) = true)
    (xBadNumber_noA : PySem.W.findIn K (.ref ABadNumber) "number" = some none)
    (xBadNumber_hg : PySem.W.findIn K (.ref ABadNumber) "__getattribute__" = some (some (.builtin "BaseException.__getattribute__")))
    (xBadNumber_hk : PySem.W.findIn K (.ref ABadNumber) "__getattr__" = some none)
    (xBadNumber_hd : PySem.W.hasDictIn K ABadNumber = true)
    (xBadNumber_ha : PySem.W.findIn K (.ref ABadNumber) "__class__" = some (some (.builtin "object.__class__")))
    (xBadNumber_hm : PySem.W.mroIn K ABadNumber (.type "object") = some true)
    (xBadNumber_is : PySem.W.isClsIn K ABadNumber = true)
    (xBadNumber_ss : PySem.W.subIn K (.ref ABadNumber) (.ref ABadNumber) = some true)
    (xBadNumber_w : PySem.W.subIn K (.ref ABadNumber) (.ref AWholeError) = some true)
    (xw_i : PySem.W.isClsIn K AWholeError = true)
    (xw_t : PySem.W.typeIn K (.ref AWholeError) = some (.type "type"))
    (xw_b : PySem.W.subIn K (.ref AWholeError) (.type "BaseException") = some true)
    : ∃ fd : FuncData, (∀ (s : Shared) (v : Value), BindsTo s fd ⟨[v], []⟩ [("_law_script", v)]) ∧ ∀ base : Heap, K.In base → base.Ns mainGlobals mg → FnOk P w K mg base CX0 9 fa fd ["_law_script"] (spLaw K) := by
  have e := hfa.symm.trans (PySem.W.mg_of X G a_law)
  cases e
  have F_is_integer := fun_mk (st := s_is_integer) l_is_integer c_is_integer k_is_integer
  have D_is_integer : DefAt K mg "is_integer" s_is_integer pm_is_integer := ⟨_, _, F_is_integer, PySem.W.mg_of X G a_is_integer, F_is_integer.binds (ps := pm_is_integer) fun _ _ _ _ _ _ us hl => match us, hl with | [_], _ => rfl⟩
  have F_is_between := fun_mk (st := s_is_between) l_is_between c_is_between k_is_between
  have D_is_between : DefAt K mg "is_between" s_is_between pm_is_between := ⟨_, _, F_is_between, PySem.W.mg_of X G a_is_between, F_is_between.binds (ps := pm_is_between) fun _ _ _ _ _ _ us hl => match us, hl with | [_, _, _], _ => rfl⟩
  have F_is_index := fun_mk (st := s_is_index) l_is_index c_is_index k_is_index
  have D_is_index : DefAt K mg "is_index" s_is_index pm_is_index := ⟨_, _, F_is_index, PySem.W.mg_of X G a_is_index, F_is_index.binds (ps := pm_is_index) fun _ _ _ _ _ _ us hl => match us, hl with | [_, _], _ => rfl⟩
  have F_lesser := fun_mk (st := s_lesser) l_lesser c_lesser k_lesser
  have D_lesser : DefAt K mg "lesser" s_lesser pm_lesser := ⟨_, _, F_lesser, PySem.W.mg_of X G a_lesser, F_lesser.binds (ps := pm_lesser) fun _ _ _ _ _ _ us hl => match us, hl with | [_, _], _ => rfl⟩
  have F_check_lull := fun_mk (st := s_check_lull) l_check_lull c_check_lull k_check_lull
  have D_check_lull : DefAt K mg "check_lull" s_check_lull pm_check_lull := ⟨_, _, F_check_lull, PySem.W.mg_of X G a_check_lull, F_check_lull.binds (ps := pm_check_lull) fun _ _ _ _ _ _ us hl => match us, hl with | [_, _, _], _ => rfl⟩
  have F_check_quiet := fun_mk (st := s_check_quiet) l_check_quiet c_check_quiet k_check_quiet
  have D_check_quiet : DefAt K mg "check_quiet" s_check_quiet pm_check_quiet := ⟨_, _, F_check_quiet, PySem.W.mg_of X G a_check_quiet, F_check_quiet.binds (ps := pm_check_quiet) fun _ _ _ _ _ _ us hl => match us, hl with | [_], _ => rfl⟩
  have F_is_sign_behind := fun_mk (st := s_is_sign_behind) l_is_sign_behind c_is_sign_behind k_is_sign_behind
  have D_is_sign_behind : DefAt K mg "is_sign_behind" s_is_sign_behind pm_is_sign_behind := ⟨_, _, F_is_sign_behind, PySem.W.mg_of X G a_is_sign_behind, F_is_sign_behind.binds (ps := pm_is_sign_behind) fun _ _ _ _ _ _ us hl => match us, hl with | [_, _, _], _ => rfl⟩
  have F_are_signs := fun_mk (st := s_are_signs) l_are_signs c_are_signs k_are_signs
  have D_are_signs : DefAt K mg "are_signs" s_are_signs pm_are_signs := ⟨_, _, F_are_signs, PySem.W.mg_of X G a_are_signs, F_are_signs.binds (ps := pm_are_signs) fun _ _ _ _ _ _ us hl => match us, hl with | [_, _], _ => rfl⟩
  have F_stops_of := fun_mk (st := s_stops_of) l_stops_of c_stops_of k_stops_of
  have D_stops_of : DefAt K mg "stops_of" s_stops_of pm_stops_of := ⟨_, _, F_stops_of, PySem.W.mg_of X G a_stops_of, F_stops_of.binds (ps := pm_stops_of) fun _ _ _ _ _ _ us hl => match us, hl with | [_, _], _ => rfl⟩
  have F_widest := fun_mk (st := s_widest) l_widest c_widest k_widest
  have D_widest : DefAt K mg "widest" s_widest pm_widest := ⟨_, _, F_widest, PySem.W.mg_of X G a_widest, F_widest.binds (ps := pm_widest) fun _ _ _ _ _ _ us hl => match us, hl with | [_, _], _ => rfl⟩
  have F_check_limit := fun_mk (st := s_check_limit) l_check_limit c_check_limit k_check_limit
  have D_check_limit : DefAt K mg "check_limit" s_check_limit pm_check_limit := ⟨_, _, F_check_limit, PySem.W.mg_of X G a_check_limit, F_check_limit.binds (ps := pm_check_limit) fun _ _ _ _ _ _ us hl => match us, hl with | [_], _ => rfl⟩
  have F_signs_do := fun_mk (st := s_signs_do) l_signs_do c_signs_do k_signs_do
  have D_signs_do : DefAt K mg "signs_do" s_signs_do pm_signs_do := ⟨_, _, F_signs_do, PySem.W.mg_of X G a_signs_do, F_signs_do.binds (ps := pm_signs_do) fun _ _ _ _ _ _ us hl => match us, hl with | [_, _, _], _ => rfl⟩
  have F_latest_signs := fun_mk (st := s_latest_signs) l_latest_signs c_latest_signs k_latest_signs
  have D_latest_signs : DefAt K mg "latest_signs" s_latest_signs pm_latest_signs := ⟨_, _, F_latest_signs, PySem.W.mg_of X G a_latest_signs, F_latest_signs.binds (ps := pm_latest_signs) fun _ _ _ _ _ _ us hl => match us, hl with | [_, _, _], _ => rfl⟩
  have F_best_signs := fun_mk (st := s_best_signs) l_best_signs c_best_signs k_best_signs
  have D_best_signs : DefAt K mg "best_signs" s_best_signs pm_best_signs := ⟨_, _, F_best_signs, PySem.W.mg_of X G a_best_signs, F_best_signs.binds (ps := pm_best_signs) fun _ _ _ _ _ _ us hl => match us, hl with | [_, _], _ => rfl⟩
  have F_check_count := fun_mk (st := s_check_count) l_check_count c_check_count k_check_count
  have D_check_count : DefAt K mg "check_count" s_check_count pm_check_count := ⟨_, _, F_check_count, PySem.W.mg_of X G a_check_count, F_check_count.binds (ps := pm_check_count) fun _ _ _ _ _ _ us hl => match us, hl with | [_, _], _ => rfl⟩
  have F_is_step := fun_mk (st := s_is_step) l_is_step c_is_step k_is_step
  have D_is_step : DefAt K mg "is_step" s_is_step pm_is_step := ⟨_, _, F_is_step, PySem.W.mg_of X G a_is_step, F_is_step.binds (ps := pm_is_step) fun _ _ _ _ _ _ us hl => match us, hl with | [_, _, _, _], _ => rfl⟩
  have F_is_chain := fun_mk (st := s_is_chain) l_is_chain c_is_chain k_is_chain
  have D_is_chain : DefAt K mg "is_chain" s_is_chain pm_is_chain := ⟨_, _, F_is_chain, PySem.W.mg_of X G a_is_chain, F_is_chain.binds (ps := pm_is_chain) fun _ _ _ _ _ _ us hl => match us, hl with | [_, _, _], _ => rfl⟩
  have F_known_stop := fun_mk (st := s_known_stop) l_known_stop c_known_stop k_known_stop
  have D_known_stop : DefAt K mg "known_stop" s_known_stop pm_known_stop := ⟨_, _, F_known_stop, PySem.W.mg_of X G a_known_stop, F_known_stop.binds (ps := pm_known_stop) fun _ _ _ _ _ _ us hl => match us, hl with | [_, _, _], _ => rfl⟩
  have F_bars := fun_mk (st := s_bars) l_bars c_bars k_bars
  have D_bars : DefAt K mg "bars" s_bars pm_bars := ⟨_, _, F_bars, PySem.W.mg_of X G a_bars, F_bars.binds (ps := pm_bars) fun _ _ _ _ _ _ us hl => match us, hl with | [_, _, _, _], _ => rfl⟩
  have F_bars_signs := fun_mk (st := s_bars_signs) l_bars_signs c_bars_signs k_bars_signs
  have D_bars_signs : DefAt K mg "bars_signs" s_bars_signs pm_bars_signs := ⟨_, _, F_bars_signs, PySem.W.mg_of X G a_bars_signs, F_bars_signs.binds (ps := pm_bars_signs) fun _ _ _ _ _ _ us hl => match us, hl with | [_, _, _, _], _ => rfl⟩
  have F_chains_from := fun_mk (st := s_chains_from) l_chains_from c_chains_from k_chains_from
  have D_chains_from : DefAt K mg "chains_from" s_chains_from pm_chains_from := ⟨_, _, F_chains_from, PySem.W.mg_of X G a_chains_from, F_chains_from.binds (ps := pm_chains_from) fun _ _ _ _ _ _ us hl => match us, hl with | [_, _, _], _ => rfl⟩
  have F_barring_chain := fun_mk (st := s_barring_chain) l_barring_chain c_barring_chain k_barring_chain
  have D_barring_chain : DefAt K mg "barring_chain" s_barring_chain pm_barring_chain := ⟨_, _, F_barring_chain, PySem.W.mg_of X G a_barring_chain, F_barring_chain.binds (ps := pm_barring_chain) fun _ _ _ _ _ _ us hl => match us, hl with | [_, _, _], _ => rfl⟩
  have F_shows_best := fun_mk (st := s_shows_best) l_shows_best c_shows_best k_shows_best
  have D_shows_best : DefAt K mg "shows_best" s_shows_best pm_shows_best := ⟨_, _, F_shows_best, PySem.W.mg_of X G a_shows_best, F_shows_best.binds (ps := pm_shows_best) fun _ _ _ _ _ _ us hl => match us, hl with | [_, _, _, _], _ => rfl⟩
  have F__law_pool := fun_mk (st := s__law_pool) l__law_pool c__law_pool k__law_pool
  have D__law_pool : DefAt K mg "_law_pool" s__law_pool pm__law_pool := ⟨_, _, F__law_pool, PySem.W.mg_of X G a__law_pool, F__law_pool.binds (ps := pm__law_pool) fun _ _ _ _ _ _ us hl => match us, hl with | [_, _], _ => rfl⟩
  have F__law_take := fun_mk (st := s__law_take) l__law_take c__law_take k__law_take
  have D__law_take : DefAt K mg "_law_take" s__law_take pm__law_take := ⟨_, _, F__law_take, PySem.W.mg_of X G a__law_take, F__law_take.binds (ps := pm__law_take) fun _ _ _ _ _ _ us hl => match us, hl with | [_, _], _ => rfl⟩
  have F__law_one := fun_mk (st := s__law_one) l__law_one c__law_one k__law_one
  have D__law_one : DefAt K mg "_law_one" s__law_one pm__law_one := ⟨_, _, F__law_one, PySem.W.mg_of X G a__law_one, F__law_one.binds (ps := pm__law_one) fun _ _ _ _ _ _ us hl => match us, hl with | [_, _], _ => rfl⟩
  have F__law_stops := fun_mk (st := s__law_stops) l__law_stops c__law_stops k__law_stops
  have D__law_stops : DefAt K mg "_law_stops" s__law_stops pm__law_stops := ⟨_, _, F__law_stops, PySem.W.mg_of X G a__law_stops, F__law_stops.binds (ps := pm__law_stops) fun _ _ _ _ _ _ us hl => match us, hl with | [_, _], _ => rfl⟩
  have F__law_gap := fun_mk (st := s__law_gap) l__law_gap c__law_gap k__law_gap
  have D__law_gap : DefAt K mg "_law_gap" s__law_gap pm__law_gap := ⟨_, _, F__law_gap, PySem.W.mg_of X G a__law_gap, F__law_gap.binds (ps := pm__law_gap) fun _ _ _ _ _ _ us hl => match us, hl with | [_, _], _ => rfl⟩
  have F__law_subsets := fun_mk (st := s__law_subsets) l__law_subsets c__law_subsets k__law_subsets
  have D__law_subsets : DefAt K mg "_law_subsets" s__law_subsets pm__law_subsets := ⟨_, _, F__law_subsets, PySem.W.mg_of X G a__law_subsets, F__law_subsets.binds (ps := pm__law_subsets) fun _ _ _ _ _ _ us hl => match us, hl with | [_, _], _ => rfl⟩
  have F__law_stop := fun_mk (st := s__law_stop) l__law_stop c__law_stop k__law_stop
  have D__law_stop : DefAt K mg "_law_stop" s__law_stop pm__law_stop := ⟨_, _, F__law_stop, PySem.W.mg_of X G a__law_stop, F__law_stop.binds (ps := pm__law_stop) fun _ _ _ _ _ _ us hl => match us, hl with | [_, _, _], _ => rfl⟩
  have F__law_due := fun_mk (st := s__law_due) l__law_due c__law_due k__law_due
  have D__law_due : DefAt K mg "_law_due" s__law_due pm__law_due := ⟨_, _, F__law_due, PySem.W.mg_of X G a__law_due, F__law_due.binds (ps := pm__law_due) fun _ _ _ _ _ _ us hl => match us, hl with | [_, _, _, _], _ => rfl⟩
  have F__law_chain := fun_mk (st := s__law_chain) l__law_chain c__law_chain k__law_chain
  have D__law_chain : DefAt K mg "_law_chain" s__law_chain pm__law_chain := ⟨_, _, F__law_chain, PySem.W.mg_of X G a__law_chain, F__law_chain.binds (ps := pm__law_chain) fun _ _ _ _ _ _ us hl => match us, hl with | [_, _, _, _], _ => rfl⟩
  have F__law_does := fun_mk (st := s__law_does) l__law_does c__law_does k__law_does
  have D__law_does : DefAt K mg "_law_does" s__law_does pm__law_does := ⟨_, _, F__law_does, PySem.W.mg_of X G a__law_does, F__law_does.binds (ps := pm__law_does) fun _ _ _ _ _ _ us hl => match us, hl with | [_, _, _], _ => rfl⟩
  have F__law_count_right := fun_mk (st := s__law_count_right) l__law_count_right c__law_count_right k__law_count_right
  have D__law_count_right : DefAt K mg "_law_count_right" s__law_count_right pm__law_count_right := ⟨_, _, F__law_count_right, PySem.W.mg_of X G a__law_count_right, F__law_count_right.binds (ps := pm__law_count_right) fun _ _ _ _ _ _ us hl => match us, hl with | [_, _, _, _, _], _ => rfl⟩
  have F__law_best_right := fun_mk (st := s__law_best_right) l__law_best_right c__law_best_right k__law_best_right
  have D__law_best_right : DefAt K mg "_law_best_right" s__law_best_right pm__law_best_right := ⟨_, _, F__law_best_right, PySem.W.mg_of X G a__law_best_right, F__law_best_right.binds (ps := pm__law_best_right) fun _ _ _ _ _ _ us hl => match us, hl with | [_, _, _], _ => rfl⟩
  have F_BadNumber_init := fun_mk (st := s_BadNumber_init) l_BadNumber_init c_BadNumber_init k_BadNumber_init
  have F_Lull_init := fun_mk (st := s_Lull_init) l_Lull_init c_Lull_init k_Lull_init
  have M_Lull_init : MethAt K ALull "__init__" "Lull.__init__" s_Lull_init pm_Lull_init := ⟨_, _, F_Lull_init, a_Lull_init, i_Lull_init, F_Lull_init.binds (ps := pm_Lull_init) fun _ _ _ _ _ _ us hl => match us, hl with | [_, _, _, _, _], _ => rfl⟩
  have T : Txt K mg ⟨ABadNumber, AWholeError, ALull⟩ :=
    { n_isinstance := PySem.W.mg_none_of X G n_isinstance,
      n_int := PySem.W.mg_none_of X G n_int,
      n_bool := PySem.W.mg_none_of X G n_bool,
      n_list := PySem.W.mg_none_of X G n_list,
      n_tuple := PySem.W.mg_none_of X G n_tuple,
      n_len := PySem.W.mg_none_of X G n_len,
      n_range := PySem.W.mg_none_of X G n_range,
      n_zip := PySem.W.mg_none_of X G n_zip,
      n_max := PySem.W.mg_none_of X G n_max,
      n_min := PySem.W.mg_none_of X G n_min,
      n_all := PySem.W.mg_none_of X G n_all,
      g_MOST_DELAY := ⟨_, PySem.W.mg_of X G v_MOST_DELAY⟩,
      g_MOST_TURN := ⟨_, PySem.W.mg_of X G v_MOST_TURN⟩,
      g_MOST_QUIET := ⟨_, PySem.W.mg_of X G v_MOST_QUIET⟩,
      g_MOST_LOST := ⟨_, PySem.W.mg_of X G v_MOST_LOST⟩,
      g_MOST_LIMIT := ⟨_, PySem.W.mg_of X G v_MOST_LIMIT⟩,
      Lull := ⟨PySem.W.mg_of X G g_Lull, ⟨pg_Lull, hd_Lull, po_Lull, sa_Lull⟩, ha_Lull, s_hn, s_tk, hm_Lull, ne_Lull, is_Lull, ty_Lull, tup_Lull, lst_Lull, int_Lull, str_Lull⟩,
      c_delay := na_Lull_delay,
      c_turn := na_Lull_turn,
      c_losses := na_Lull_losses,
      c_quiet := na_Lull_quiet,
      BadNumber := ⟨⟨⟨_, _, _, _, _, _, _, _, _, _, _, _, _, _, _, xBadNumber_L, ve_one⟩, xBadNumber_sa, xBadNumber_ex, xBadNumber_ty, xBadNumber_kC⟩, PySem.W.mg_of X G g_BadNumber, xBadNumber_noA, ⟨xBadNumber_hg, xBadNumber_hk, xBadNumber_ex, xBadNumber_hd, xBadNumber_ha, s_hn, s_tk, xBadNumber_hm⟩, _, a_BadNumber_init, i_BadNumber_init, _, F_BadNumber_init, F_BadNumber_init.binds (ps := ["self", "number"]) fun _ _ _ _ _ _ us hl => match us, hl with | [_, _], _ => rfl⟩,
      x_nn := exm_ref xBadNumber_ex xBadNumber_is xBadNumber_ty xBadNumber_ss }
  exact ⟨PySem.W.fnOf "law" "law" (defArgs s_law) (defBody s_law) (defScope s_law) .none kV_law dc_law pm_law_ an_law cd_law ct_law, fun s v => .of_eq rfl, fun base _ _ =>
    law_ok T D_is_integer D_is_between D_is_index D_lesser D_check_lull D_check_quiet D_is_sign_behind D_are_signs D_stops_of D_widest D_check_limit D_signs_do D_latest_signs D_best_signs D_check_count D_is_step D_is_chain D_known_stop D_bars D_bars_signs D_chains_from D_barring_chain D_shows_best D__law_pool D__law_take D__law_one D__law_stops D__law_gap D__law_subsets D__law_stop D__law_due D__law_chain D__law_does D__law_count_right D__law_best_right M_Lull_init mk_Lull kc_Lull  (fun_mk (st := s_law) l_law c_law k_law)⟩
theorem walkF {l : PySem.W.OpenLaw} {q : Program} {loose : List Str} {XP : (Str → Option Value) → Heap → Prop} {YP : World → Heap → Prop} {d : DefRec} {K : Params → PySem.W.Frag} (hn : l.most = some 63) (hdf : d.params.defaults = [])
    (hY : ∀ (w : World) (h : Heap), YP w h → (K w.params).In h)
    (F : ∀ (w : World) (mg : Str → Option Value) (fa : Addr) (h : Heap), (K w.params).In h → h.Ns mainGlobals mg → mg d.name = some (.ref fa) →
      ∃ fd : FuncData, (∀ (s : Shared) (u : Value), BindsTo s fd ⟨[u], []⟩ [("_law_script", u)]) ∧ ∀ base : Heap, (K w.params).In base → base.Ns mainGlobals mg → FnOk l.prog w (K w.params) mg base CX0 9 fa fd ["_law_script"] (spLaw (K w.params))) :
    PySem.W.WalkO q loose XP YP l.row.toRowW d [] (fun f vs => PySem.call f vs) :=
  L2.walk_of (n := 63) (k := 9) (x := "_law_script") (CX := fun _ => CX0) (sp := fun w => spLaw (K w.params)) hn (by decide) hdf ⟨rfl, by decide, by decide⟩ hY F (fun _ _ a ns hl _ hS => ⟨a, ns, rfl, hS, hl, fun _ => rfl⟩) fun _ _ _ _ _ z => z
end K33

open PySem PySem.W PyProof.Rows in
set_option maxRecDepth 100000 in
set_option maxHeartbeats 0 in
theorem PySem.Challenge.cw_wholeline_k34_whole_chains_that_bar_sign_holds : PySem.Challenge.rw_wholeline_k34_whole_chains_that_bar_sign.Holds := by
  w_on; o_law; k_head; (case hw => w_witness2)
  k_fill
  refine K33.walkF (l := PySem.Challenge.rw_wholeline_k34_whole_chains_that_bar_sign) rfl rfl (fun w h Y => PySem.W.kIn_of Y) ?F
  case F =>
    intro w mg fa h KX G hmg
    refine' K33.all_mk KX G hmg ?q_g_BadNumber ?q_g_WholeError ?q_g_Lull ?q_a_is_integer ?q_l_is_integer ?q_c_is_integer ?q_k_is_integer ?q_a_is_between ?q_l_is_between ?q_c_is_between ?q_k_is_between ?q_a_is_index ?q_l_is_index ?q_c_is_index ?q_k_is_index ?q_a_lesser ?q_l_lesser ?q_c_lesser ?q_k_lesser ?q_a_check_lull ?q_l_check_lull ?q_c_check_lull ?q_k_check_lull ?q_a_check_quiet ?q_l_check_quiet ?q_c_check_quiet ?q_k_check_quiet ?q_a_is_sign_behind ?q_l_is_sign_behind ?q_c_is_sign_behind ?q_k_is_sign_behind ?q_a_are_signs ?q_l_are_signs ?q_c_are_signs ?q_k_are_signs ?q_a_stops_of ?q_l_stops_of ?q_c_stops_of ?q_k_stops_of ?q_a_widest ?q_l_widest ?q_c_widest ?q_k_widest ?q_a_check_limit ?q_l_check_limit ?q_c_check_limit ?q_k_check_limit ?q_a_signs_do ?q_l_signs_do ?q_c_signs_do ?q_k_signs_do ?q_a_latest_signs ?q_l_latest_signs ?q_c_latest_signs ?q_k_latest_signs ?q_a_best_signs ?q_l_best_signs ?q_c_best_signs ?q_k_best_signs ?q_a_check_count ?q_l_check_count ?q_c_check_count ?q_k_check_count ?q_a_is_step ?q_l_is_step ?q_c_is_step ?q_k_is_step ?q_a_is_chain ?q_l_is_chain ?q_c_is_chain ?q_k_is_chain ?q_a_known_stop ?q_l_known_stop ?q_c_known_stop ?q_k_known_stop ?q_a_bars ?q_l_bars ?q_c_bars ?q_k_bars ?q_a_bars_signs ?q_l_bars_signs ?q_c_bars_signs ?q_k_bars_signs ?q_a_chains_from ?q_l_chains_from ?q_c_chains_from ?q_k_chains_from ?q_a_barring_chain ?q_l_barring_chain ?q_c_barring_chain ?q_k_barring_chain ?q_a_shows_best ?q_l_shows_best ?q_c_shows_best ?q_k_shows_best ?q_a__law_pool ?q_l__law_pool ?q_c__law_pool ?q_k__law_pool ?q_a__law_take ?q_l__law_take ?q_c__law_take ?q_k__law_take ?q_a__law_one ?q_l__law_one ?q_c__law_one ?q_k__law_one ?q_a__law_stops ?q_l__law_stops ?q_c__law_stops ?q_k__law_stops ?q_a__law_gap ?q_l__law_gap ?q_c__law_gap ?q_k__law_gap ?q_a__law_subsets ?q_l__law_subsets ?q_c__law_subsets ?q_k__law_subsets ?q_a__law_stop ?q_l__law_stop ?q_c__law_stop ?q_k__law_stop ?q_a__law_due ?q_l__law_due ?q_c__law_due ?q_k__law_due ?q_a__law_chain ?q_l__law_chain ?q_c__law_chain ?q_k__law_chain ?q_a__law_does ?q_l__law_does ?q_c__law_does ?q_k__law_does ?q_a__law_count_right ?q_l__law_count_right ?q_c__law_count_right ?q_k__law_count_right ?q_a__law_best_right ?q_l__law_best_right ?q_c__law_best_right ?q_k__law_best_right ?q_a_law ?q_l_law ?q_c_law ?q_k_law ?q_a_BadNumber_init ?q_i_BadNumber_init ?q_l_BadNumber_init ?q_c_BadNumber_init ?q_k_BadNumber_init ?q_a_Lull_init ?q_i_Lull_init ?q_l_Lull_init ?q_c_Lull_init ?q_k_Lull_init ?q_n_isinstance ?q_n_int ?q_n_bool ?q_n_list ?q_n_tuple ?q_n_len ?q_n_range ?q_n_zip ?q_n_max ?q_n_min ?q_n_all ?q_v_MOST_DELAY ?q_v_MOST_TURN ?q_v_MOST_QUIET ?q_v_MOST_LOST ?q_v_MOST_LIMIT ?q_s_hn ?q_s_tk ?q_pg_Lull ?q_hd_Lull ?q_po_Lull ?q_sa_Lull ?q_ha_Lull ?q_hm_Lull ?q_ne_Lull ?q_is_Lull ?q_ty_Lull ?q_tup_Lull ?q_lst_Lull ?q_int_Lull ?q_str_Lull ?q_mk_Lull ?q_kc_Lull ?q_na_Lull_delay ?q_na_Lull_turn ?q_na_Lull_losses ?q_na_Lull_quiet ?q_xBadNumber_L ?q_xBadNumber_sa ?q_xBadNumber_ex ?q_xBadNumber_ty ?q_xBadNumber_kC ?q_xBadNumber_noA ?q_xBadNumber_hg ?q_xBadNumber_hk ?q_xBadNumber_hd ?q_xBadNumber_ha ?q_xBadNumber_hm ?q_xBadNumber_is ?q_xBadNumber_ss ?q_xBadNumber_w ?q_xw_i ?q_xw_t ?q_xw_b
    (case q_g_BadNumber => k_is)
    (case q_g_WholeError => k_is)
    (case q_g_Lull => k_is)
    (case q_a_is_integer => k_is)
    (case q_l_is_integer => k_is)
    (case q_c_is_integer => k_is)
    (case q_k_is_integer => k_is)
    (case q_a_is_between => k_is)
    (case q_l_is_between => k_is)
    (case q_c_is_between => k_is)
    (case q_k_is_between => k_is)
    (case q_a_is_index => k_is)
    (case q_l_is_index => k_is)
    (case q_c_is_index => k_is)
    (case q_k_is_index => k_is)
    (case q_a_lesser => k_is)
    (case q_l_lesser => k_is)
    (case q_c_lesser => k_is)
    (case q_k_lesser => k_is)
    (case q_a_check_lull => k_is)
    (case q_l_check_lull => k_is)
    (case q_c_check_lull => k_is)
    (case q_k_check_lull => k_is)
    (case q_a_check_quiet => k_is)
    (case q_l_check_quiet => k_is)
    (case q_c_check_quiet => k_is)
    (case q_k_check_quiet => k_is)
    (case q_a_is_sign_behind => k_is)
    (case q_l_is_sign_behind => k_is)
    (case q_c_is_sign_behind => k_is)
    (case q_k_is_sign_behind => k_is)
    (case q_a_are_signs => k_is)
    (case q_l_are_signs => k_is)
    (case q_c_are_signs => k_is)
    (case q_k_are_signs => k_is)
    (case q_a_stops_of => k_is)
    (case q_l_stops_of => k_is)
    (case q_c_stops_of => k_is)
    (case q_k_stops_of => k_is)
    (case q_a_widest => k_is)
    (case q_l_widest => k_is)
    (case q_c_widest => k_is)
    (case q_k_widest => k_is)
    (case q_a_check_limit => k_is)
    (case q_l_check_limit => k_is)
    (case q_c_check_limit => k_is)
    (case q_k_check_limit => k_is)
    (case q_a_signs_do => k_is)
    (case q_l_signs_do => k_is)
    (case q_c_signs_do => k_is)
    (case q_k_signs_do => k_is)
    (case q_a_latest_signs => k_is)
    (case q_l_latest_signs => k_is)
    (case q_c_latest_signs => k_is)
    (case q_k_latest_signs => k_is)
    (case q_a_best_signs => k_is)
    (case q_l_best_signs => k_is)
    (case q_c_best_signs => k_is)
    (case q_k_best_signs => k_is)
    (case q_a_check_count => k_is)
    (case q_l_check_count => k_is)
    (case q_c_check_count => k_is)
    (case q_k_check_count => k_is)
    (case q_a_is_step => k_is)
    (case q_l_is_step => k_is)
    (case q_c_is_step => k_is)
    (case q_k_is_step => k_is)
    (case q_a_is_chain => k_is)
    (case q_l_is_chain => k_is)
    (case q_c_is_chain => k_is)
    (case q_k_is_chain => k_is)
    (case q_a_known_stop => k_is)
    (case q_l_known_stop => k_is)
    (case q_c_known_stop => k_is)
    (case q_k_known_stop => k_is)
    (case q_a_bars => k_is)
    (case q_l_bars => k_is)
    (case q_c_bars => k_is)
    (case q_k_bars => k_is)
    (case q_a_bars_signs => k_is)
    (case q_l_bars_signs => k_is)
    (case q_c_bars_signs => k_is)
    (case q_k_bars_signs => k_is)
    (case q_a_chains_from => k_is)
    (case q_l_chains_from => k_is)
    (case q_c_chains_from => k_is)
    (case q_k_chains_from => k_is)
    (case q_a_barring_chain => k_is)
    (case q_l_barring_chain => k_is)
    (case q_c_barring_chain => k_is)
    (case q_k_barring_chain => k_is)
    (case q_a_shows_best => k_is)
    (case q_l_shows_best => k_is)
    (case q_c_shows_best => k_is)
    (case q_k_shows_best => k_is)
    (case q_a__law_pool => k_is)
    (case q_l__law_pool => k_is)
    (case q_c__law_pool => k_is)
    (case q_k__law_pool => k_is)
    (case q_a__law_take => k_is)
    (case q_l__law_take => k_is)
    (case q_c__law_take => k_is)
    (case q_k__law_take => k_is)
    (case q_a__law_one => k_is)
    (case q_l__law_one => k_is)
    (case q_c__law_one => k_is)
    (case q_k__law_one => k_is)
    (case q_a__law_stops => k_is)
    (case q_l__law_stops => k_is)
    (case q_c__law_stops => k_is)
    (case q_k__law_stops => k_is)
    (case q_a__law_gap => k_is)
    (case q_l__law_gap => k_is)
    (case q_c__law_gap => k_is)
    (case q_k__law_gap => k_is)
    (case q_a__law_subsets => k_is)
    (case q_l__law_subsets => k_is)
    (case q_c__law_subsets => k_is)
    (case q_k__law_subsets => k_is)
    (case q_a__law_stop => k_is)
    (case q_l__law_stop => k_is)
    (case q_c__law_stop => k_is)
    (case q_k__law_stop => k_is)
    (case q_a__law_due => k_is)
    (case q_l__law_due => k_is)
    (case q_c__law_due => k_is)
    (case q_k__law_due => k_is)
    (case q_a__law_chain => k_is)
    (case q_l__law_chain => k_is)
    (case q_c__law_chain => k_is)
    (case q_k__law_chain => k_is)
    (case q_a__law_does => k_is)
    (case q_l__law_does => k_is)
    (case q_c__law_does => k_is)
    (case q_k__law_does => k_is)
    (case q_a__law_count_right => k_is)
    (case q_l__law_count_right => k_is)
    (case q_c__law_count_right => k_is)
    (case q_k__law_count_right => k_is)
    (case q_a__law_best_right => k_is)
    (case q_l__law_best_right => k_is)
    (case q_c__law_best_right => k_is)
    (case q_k__law_best_right => k_is)
    (case q_a_law => k_is)
    (case q_l_law => k_is)
    (case q_c_law => k_is)
    (case q_k_law => k_is)
    (case q_a_BadNumber_init => k_is)
    (case q_i_BadNumber_init => k_is)
    (case q_l_BadNumber_init => k_is)
    (case q_c_BadNumber_init => k_is)
    (case q_k_BadNumber_init => k_is)
    (case q_a_Lull_init => k_is)
    (case q_i_Lull_init => k_is)
    (case q_l_Lull_init => k_is)
    (case q_c_Lull_init => k_is)
    (case q_k_Lull_init => k_is)
    (case q_n_isinstance => k_is)
    (case q_n_int => k_is)
    (case q_n_bool => k_is)
    (case q_n_list => k_is)
    (case q_n_tuple => k_is)
    (case q_n_len => k_is)
    (case q_n_range => k_is)
    (case q_n_zip => k_is)
    (case q_n_max => k_is)
    (case q_n_min => k_is)
    (case q_n_all => k_is)
    (case q_v_MOST_DELAY => k_is)
    (case q_v_MOST_TURN => k_is)
    (case q_v_MOST_QUIET => k_is)
    (case q_v_MOST_LOST => k_is)
    (case q_v_MOST_LIMIT => k_is)
    (case q_s_hn => k_is)
    (case q_s_tk => k_is)
    (case q_pg_Lull => k_is)
    (case q_hd_Lull => k_is)
    (case q_po_Lull => k_is)
    (case q_sa_Lull => k_is)
    (case q_ha_Lull => k_is)
    (case q_hm_Lull => k_is)
    (case q_ne_Lull => k_is)
    (case q_is_Lull => k_is)
    (case q_ty_Lull => k_is)
    (case q_tup_Lull => k_is)
    (case q_lst_Lull => k_is)
    (case q_int_Lull => k_is)
    (case q_str_Lull => k_is)
    (case q_mk_Lull => k_is)
    (case q_kc_Lull => k_is)
    (case q_na_Lull_delay => k_is)
    (case q_na_Lull_turn => k_is)
    (case q_na_Lull_losses => k_is)
    (case q_na_Lull_quiet => k_is)
    (case q_xBadNumber_L => k_is)
    (case q_xBadNumber_sa => k_is)
    (case q_xBadNumber_ex => k_is)
    (case q_xBadNumber_ty => k_is)
    (case q_xBadNumber_kC => k_is)
    (case q_xBadNumber_noA => k_is)
    (case q_xBadNumber_hg => k_is)
    (case q_xBadNumber_hk => k_is)
    (case q_xBadNumber_hd => k_is)
    (case q_xBadNumber_ha => k_is)
    (case q_xBadNumber_hm => k_is)
    (case q_xBadNumber_is => k_is)
    (case q_xBadNumber_ss => k_is)
    (case q_xBadNumber_w => k_is)
    (case q_xw_i => k_is)
    (case q_xw_t => k_is)
    (case q_xw_b => k_is)
