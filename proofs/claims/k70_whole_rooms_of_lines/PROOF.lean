import PyProof.Rows.All
import Wide.All
import OpenK.AllK
import Wide.FinOn
import PyProof.EqAt
import PyProof.EqKinds
import PyProof.TupleCall
import HandS.Base
import HandS.Call
import HandS.List
import HandS.Comp
import HandS.Ends
import HandS.Words
import HandS.WordsList
import HandS.Exc
import HandS.ExcInit
import HandS.ExcIs
import HandS.OwnEq
import HandS.IsInst
import HandS.ExcOwn
import HandS.ExcField
import HandS.WordsExc
import HandS.TryOnly
import HandS.TryMany
import HandS.CallSlots
import HandS.Wide
import HandS.Codes
import KE.KTupSum
import PyProof.ListRange
import KE.GoesEnum
import HandS.Iter
import HandS.Walk
import HandS.HotCalls
import KE.KEqNest
import HandS.MakeKwOnly
import HandS.TupAny
import HandS.Strs
import HandS.Deep
import HandS.Zip
import HandS.Star
import HandS.Conv
import HandS.IterVal
import HandS.ListItems
import KE.KDictZip
import KE.DataFind
import HandS.GenCall
import HandS.GenList
import KE.DataMinMax
import HandS.SortKw
import KE.KExcInit
import HandS.SetFor
import HandS.Style
import KE.GoesZip
import KE.GoesMore
import HandS.Remove
import HandS.SlotsOwn
import KE.GoesEnumKw
import PyProof.Rows.CallKwBuiltin
import HandS.RevRange
import HandS.Defaults
import HandS.Evl
import HandS.NoneIn
import PySem.Challenge.RW_wholeline_k70_whole_rooms_of_lines
set_option Elab.async false
set_option maxRecDepth 100000
set_option maxHeartbeats 4000000
namespace PySem.W
open PySem PySem.Calls PyProof.Rows
section
variable {prog : Program} {w : World} {A : Around} {E : Value → Shared → Prop} {s : Shared} {K : Frag} {x C L f : Addr} {h₀ : Heap} {m : Str → Option Value} {ox : Obj} {od : Option Obj} {b tb : Value}
theorem objNe_K {Q : Fin → Shared → Prop} (hu : A.units < cLine) (X : K.In s.heap) (I : InstAt s.heap x ox C od)
    (hs : findIn K (.ref C) "__eq__" = some (some (.ref f))) (hf : isFn K (.ref f) = true)
    (h : wpAny (model prog w) A (call (.ref f) [.ref x, b]) (fun v s' => ∃ r, v = .bool r ∧ Q (.done (.ret (.bool (!r)))) s') E s) :
    wpAny (model prog w) A (Builtin.«object.__ne__» ⟨[.ref x, b], []⟩) Q E s := by
  obtain ⟨hp, g, d, tk, os⟩ := s
  unfold Builtin.«object.__ne__»
  repeat (first
    | with_reducible refine wpAny_cRoomFor hu ?_
    | (refine wpAny_bind (m := callSpecialIfBound? (.ref x) (Str.ofString "__eq__") [b])
        (ifBound_K X I hs hf (wpAny_mono h (fun r s' hr => by
          obtain ⟨b, rfl, hq⟩ := hr
          repeat (first | exact hq | exact wpAny_pure hq | exact wpAny_truthy_bool hq | (refine wpAny_bind (m := truthy (.bool _)) (wpAny_truthy_bool ?_)) | wp_step)) fun _ _ e => e)))
    | wp_step)
theorem cmpNe_K {Q : Value → Shared → Prop} (hu : A.units + 1 < cLine) (F : Fr h₀ L s.heap m) (X₀ : K.In h₀) (I : InstAt s.heap x ox C od) (hb : Looks (model prog w) s.heap (typeOf b) tb) (hn : notFirst K C tb = true)
    (hne : findIn K (.ref C) "__ne__" = some (some (.builtin "object.__ne__"))) (hm : mroIn K C (.type "object") = some true)
    (hs : findIn K (.ref C) "__eq__" = some (some (.ref f))) (hf : isFn K (.ref f) = true)
    (h : wpAny (model prog w) A.in1 (call (.ref f) [.ref x, b]) (fun v s' => ∃ r, v = .bool r ∧ Q (.bool (!r)) s') E s) : wpAny (model prog w) A (richCompare .NotEq (.ref x) b) Q E s := by
  have X := X₀.keeps F.keep
  have sub : Looks (model prog w) s.heap (isInstance (.ref x) (.type "object")) true := I.type.andThen (looks_mroIn X hm)
  have one : wpAny (model prog w) A (tryCompare (.ref x) "__ne__" b) (fun r s' => ∃ v, r = some v ∧ Q v s') E s := by
    unfold tryCompare
    refine wpAny_bind ?_
    simp only [callSpecialIfBound?, bindSpecialIfBound?]
    refine wpAny_holding (wpAny_bind (wpAny_bind (wpAny_bind (I.type.here ((looks_findIn X hne).here ?_)))))
    simp only [PySem.F.cmp_object.ne.bind]
    refine wpAny_bind (wpAny_askSetting (wpAny_ite ?_))
    have fin : wpAny (model prog w) A (call (.builtin "object.__ne__") ([.ref x] ++ [b]) >>= fun v => pure (some v)) (fun r s' => wpAny (model prog w) A (match r with
        | some .notImplemented | none => pure none
        | some v => pure (some v)) (fun r s' => ∃ v, r = some v ∧ Q v s') E s') E s := by
      refine wpAny_bind (wpAny_call (codeAny_call_builtin PySem.F.cmp_object.ne.plain PySem.F.cmpEntry_ne (check_slot PySem.F.cmpKind_ne PySem.F.cmpSplit_ne sub (PySem.F.cmpArgs_ne _ _)
        (objNe_K (A := A.in1) hu X I hs hf (wpAny_mono h (fun v s' hv => ?_) fun _ _ e => e)))))
      obtain ⟨r, rfl, hq⟩ := hv
      first | exact ⟨r, rfl, wpAny_pure (wpAny_pure ⟨_, rfl, hq⟩)⟩ | exact ⟨r, rfl, wpAny_pure ⟨_, rfl, hq⟩⟩
    split
    · repeat (first | exact fin | with_reducible refine wpAny_pure ?_ | with_reducible refine wpAny_bind ?_ | with_reducible refine wpAny_tryCatch ?_)
    · refine wpAny_tryCatch ?_
      repeat (first | exact fin | with_reducible refine wpAny_pure ?_ | with_reducible refine wpAny_bind ?_)
  unfold richCompare
  simp only [oneThing_ref]
  refine wpAny_holding (wpAny_bind (wpAny_cRoomFor (Nat.lt_of_succ_lt hu) ?_))
  refine wpAny_bind (I.type.here (wpAny_bind (hb.here ?_)))
  split
  · rename_i q
    have e : subIn K tb (.ref C) = some false := by
      rcases Bool.or_eq_true_iff.mp hn with e | e
      · rw [beq_iff_eq.mp e] at q; simp at q
      · exact beq_iff_eq.mp e
    refine wpAny_bind ((looks_subIn X e).here ?_)
    simp only [Bool.false_eq_true, if_false]
    refine wpAny_bind (wpAny_mono one (fun r s' z => ?_) fun _ _ e => e)
    obtain ⟨v, rfl, hq⟩ := z
    exact wpAny_pure hq
  · refine wpAny_bind (wpAny_pure ?_)
    simp only [Bool.false_eq_true, if_false]
    refine wpAny_bind (wpAny_mono one (fun r s' z => ?_) fun _ _ e => e)
    obtain ⟨v, rfl, hq⟩ := z
    exact wpAny_pure hq
end
end PySem.W

set_option Elab.async false
set_option maxRecDepth 100000
set_option maxHeartbeats 4000000
namespace L2
open PySem PySem.Spec PyProof.Rows
section
variable {X : Cx} {CX : CXT} {k : Nat} {f C : Addr} {fd : FuncData} {ps : List Str} {sp : Sp}
/-- the own method f, called at some frame below with room -/
theorem run_at {A : Around} {pins : List (Addr × Obj)} {σ : St} {H : Hp} {s : Shared} {Q : VK} {us : List Value} {vs : List V} (F : FnOk X.prog X.w X.K X.mg X.base CX k f fd ps sp) (hr : Room k A) (hA : A.frames = X.A.frames) (hb : Binds X.K fd ps []) (hx : Passes CX X E0)
    (I : Inv X pins σ H s) (r : Vals vs us) (h : sp vs H Q E0) : wpAny (model X.prog X.w) A (call (.ref f) us) (EP X pins σ Q) X.xe s := by
  have hl : us.length = ps.length := by rw [← r.length]; exact F.len _ _ _ _ h
  have e0 : Env0 X.prog X.w X.K X.mg X.base A X.stack s H := by
    have e := I.env0
    exact ⟨by rw [hA]; exact e.frames, e.mod, e.bs, e.bsz, e.funs, e.frf, e.hok, e.bare⟩
  refine wpAny_call (codeAny_mono (F.run A X.stack s H ⟨us, []⟩ us vs Q E0 hr e0 (by
    have := hb s us I.kIn (by simpa using hl)
    simpa using this) r h) fun r s' hq => ?_)
  cases r with
  | error e => exact hx pins σ H s e s' I hq
  | ok fl =>
    cases fl with
    | ret u => exact I.after hq
    | next => exact False.elim hq
    | brk => exact False.elim hq
    | cont => exact False.elim hq
/-- x == y, x an instance of the class at C, by its own ==; y anything whose type is known -/
def rEqO (K : PySem.W.Frag) (C : Addr) (sp : Sp) : R2 := fun x y H Q => ∃ a dx fs t, x = .ref a ∧ H a = some (.ins C dx fs) ∧ TyX K H y t ∧ PySem.W.notFirst K C t = true ∧ sp [x, y] H (fun v H' => ∃ b, v = .bl b ∧ Q (.bl b) H') E0
def rNeO (K : PySem.W.Frag) (C : Addr) (sp : Sp) : R2 := fun x y H Q => ∃ a dx fs t, x = .ref a ∧ H a = some (.ins C dx fs) ∧ TyX K H y t ∧ PySem.W.notFirst K C t = true ∧ sp [x, y] H (fun v H' => ∃ b, v = .bl b ∧ Q (.bl (!b)) H') E0
structure EqM (K : PySem.W.Frag) (C f : Addr) : Prop where
  eq : PySem.W.findIn K (.ref C) "__eq__" = some (some (.ref f))
  fn : PySem.W.isFn K (.ref f) = true
  ne : PySem.W.findIn K (.ref C) "__ne__" = some (some (.builtin "object.__ne__"))
  ob : PySem.W.mroIn K C (.type "object") = some true
theorem op_eqO (F : FnOk X.prog X.w X.K X.mg X.base CX k f fd ps sp) (M : EqM X.K C f) (hr : Room k X.A) (hb : Binds X.K fd ps []) (hx : Passes CX X E0) : OpR X (compareOp .Eq) (rEqO X.K C sp) := by
  intro pins s σ H x y v u Q I rx ry hq
  obtain ⟨a, dx, fs, t, rfl, ha, ty, hn, q⟩ := hq
  cases (show v = Value.ref a from rx)
  obtain ⟨P, Z, p, _⟩ := kit_of I ry ty
  obtain ⟨mA, J, _⟩ := ins_get I.hok ha
  obtain ⟨od, J, _⟩ := J.look
  obtain ⟨m, hF⟩ := I.fr
  show wpAny (model X.prog X.w) X.A (richCompare .Eq (.ref a) u) (EP X pins σ Q) X.xe s
  refine PySem.W.cmp_K (op := .Eq) (tb := t) hr.units0 hF I.ok.mod.kin J (Z.ty _ _ I.kIn p) hn M.eq M.fn ?_
  refine wpAny_mono (run_at (vs := [.ref a, y]) F hr rfl hb hx I (.cons rfl (.cons ry .nil)) q) (fun v' s' z => ?_) fun _ _ e => e
  obtain ⟨w', H', I', rv, b, rfl, q'⟩ := z
  cases rv
  exact ⟨.bl b, H', I', rfl, q'⟩
theorem op_neO (F : FnOk X.prog X.w X.K X.mg X.base CX k f fd ps sp) (M : EqM X.K C f) (hr : Room (k + 1) X.A) (hb : Binds X.K fd ps []) (hx : Passes CX X E0) : OpR X (compareOp .NotEq) (rNeO X.K C sp) := by
  intro pins s σ H x y v u Q I rx ry hq
  obtain ⟨a, dx, fs, t, rfl, ha, ty, hn, q⟩ := hq
  cases (show v = Value.ref a from rx)
  obtain ⟨P, Z, p, _⟩ := kit_of I ry ty
  obtain ⟨mA, J, _⟩ := ins_get I.hok ha
  obtain ⟨od, J, _⟩ := J.look
  obtain ⟨m, hF⟩ := I.fr
  show wpAny (model X.prog X.w) X.A (richCompare .NotEq (.ref a) u) (EP X pins σ Q) X.xe s
  refine PySem.W.cmpNe_K (tb := t) (by have := hr.units; omega) hF I.ok.mod.kin J (Z.ty _ _ I.kIn p) hn M.ne M.ob M.eq M.fn ?_
  refine wpAny_mono (run_at (vs := [.ref a, y]) F hr.in1 rfl hb hx I (.cons rfl (.cons ry .nil)) q) (fun v' s' z => ?_) fun _ _ e => e
  obtain ⟨w', H', I', rv, b, rfl, q'⟩ := z
  cases rv
  exact ⟨b, rfl, .bl (!b), H', I', rfl, q'⟩
/-- len(o), o an instance of the class at C with an own __len__ -/
def rLenO (C : Addr) (sp : Sp) : List V → Hp → VK → Prop := fun xs H Q => ∃ a dx fs, xs = [.ref a] ∧ H a = some (.ins C dx fs) ∧ sp [.ref a] H (fun v H' => ∃ n : Int, v = .int n ∧ (0 ≤ n ∧ n < 2 ^ 63) ∧ Q (.int n) H') E0
theorem call_lenO (F : FnOk X.prog X.w X.K X.mg X.base CX k f fd ps sp) (hs : PySem.W.findIn X.K (.ref C) "__len__" = some (some (.ref f))) (hf : PySem.W.isFn X.K (.ref f) = true) (hr : Room (k + 1) X.A) (hb : Binds X.K fd ps []) (hx : Passes CX X E0) :
    CallR X (.builtin "len") (rLenO C sp) := by
  intro pins s σ H xs us Q I r h
  obtain ⟨a, dx, fs, rfl, ha, q⟩ := h
  cases r with
  | cons rx rr =>
    rename_i u us'
    cases rr
    cases (show u = Value.ref a from rx)
    obtain ⟨mA, J, _⟩ := ins_get I.hok ha
    obtain ⟨od, J, _⟩ := J.look
    obtain ⟨m, hF⟩ := I.fr
    refine PySem.W.len_K hF I.ok.mod.kin J hs hf ?_
    refine wpAny_mono (run_at (vs := [.ref a]) F hr.in1 rfl hb hx I (.cons rfl .nil) q) (fun v' s' z => ?_) fun _ _ e => e
    obtain ⟨w', H', I', rv, n, rfl, hn, q'⟩ := z
    obtain ⟨t, rfl⟩ := (show ∃ t, v' = Value.int n t from rv)
    exact ⟨hn, .int n, H', I'.tok _, ⟨_, rfl⟩, q'⟩
end
end L2

set_option Elab.async false
set_option maxRecDepth 100000
set_option maxHeartbeats 4000000
namespace PySem.W
open PySem PySem.Spec PySem.Calls PyProof.Rows
section
variable {K : Frag} {C : Addr}
theorem findObj_dat {od : Option Obj} {name : Str} {a g : Value} (hc : (clsIn K C).isSome = true) (ha : findIn K (.ref C) name = some (some a)) (hg : specialIn K a "__get__" = some (some g)) (ht : takesIn K a = some true) :
    findObj K C od name = some (.bind g a) := by
  obtain ⟨cd, hc⟩ := Option.isSome_iff_exists.mp hc
  simp [findObj, hc, ha, hg, ht]
variable {prog : Program} {w : World} {A : Around} {E : Value → Shared → Prop} {s : Shared} {x D : Addr} {ox : Obj}
theorem kin_classD {od : Option Obj} {Q : Option Value → Shared → Prop} (T : L2.ExcC K D)
    (X : K.In s.heap) (I : InstAt s.heap x ox D od) (h : Q (some (.ref D)) { s with toks := s.toks + 1 }) : wpAny (model prog w) A (getAttr? (.ref x) "__class__") Q E s := by
  have hf : findObj K D od "__class__" = some (.bind (.builtin "getset_descriptor.__get__") (.builtin "object.__class__")) :=
    findObj_dat (by obtain ⟨cd, hc, _⟩ := any_some T.hd; rw [hc]; rfl) T.ha T.hn T.ht
  obtain ⟨hp, g, d, t, os⟩ := s
  have L0 := I.type (M := model prog w)
  have L1 := looks_findIn (M := model prog w) X T.hg
  have L2 := looks_findIn (M := model prog w) X T.hk
  have L3 := looks_find (M := model prog w) X I hf
  have sub : Looks (model prog w) hp (isInstance (.ref x) (.type "BaseException")) true := L0.andThen (looks_subIn X T.hs)
  have hx0 : (false && onTheHeap (Value.builtin "BaseException.__getattribute__")) = false := rfl
  have hx2 : (Value.builtin "BaseException.__getattribute__" == Value.builtin "object.__getattribute__") = false := by decide +kernel
  have hx1 : (onTheHeap (Value.ref D) && Value.builtin "BaseException.__getattribute__" == Value.builtin "object.__getattribute__") = false := by rw [hx2]; rfl
  unfold getAttr? getAttrBy? getAttrBy
  refine wpAny_bind (wpAny_mkText (wpAny_bind (wpAny_attempt (wpAny_holding (wpAny_bind (L0.at (wpAny_bind (L1.at ?_))))))))
  show wpAny _ _ (if (onTheHeap (Value.ref D) && Value.builtin "BaseException.__getattribute__" == Value.builtin "object.__getattribute__") = true then _ else _) _ _ _
  rw [hx1, if_neg Bool.false_ne_true]
  unfold getAttrByItsOwn hookBefore
  refine wpAny_bind ?_
  rw [if_pos (show onTheHeap (Value.ref D) = true from rfl)]
  refine L2.at ?_
  refine wpAny_bind (wpAny_attempt (wpAny_holding ?_))
  unfold callGetattribute
  rw [hx0, if_neg Bool.false_ne_true]
  unfold boundAndCalled
  rw [PySem.F.excAttr_ValueError.ga.bind (.ref x)]
  refine wpAny_bind (wpAny_pure ?_)
  show wpAny _ _ (call (.builtin "BaseException.__getattribute__") [.ref x, .str "__class__" t]) _ _ _
  refine wpAny_call (codeAny_call_builtin PySem.F.excAttr_ValueError.ga.plain PySem.F.entry_bexc_ga ?_)
  refine @check_slot (model prog w) _ _ ⟨hp, g, d, t + 1, os⟩ "BaseException.__getattribute__" "BaseException" "__getattribute__" (.ref x) [.str "__class__" t] [] _ (by decide +kernel) (by decide +kernel) sub (PySem.F.args_bexc_ga (.ref x) (.str "__class__" t)) ?_
  unfold Builtin.«object.__getattribute__»
  refine wpAny_bind (wpAny_of_eq (a := ((Value.ref x : Value), [Value.str "__class__" t])) (by first | rfl | (simp only [slotArgs]; rfl)) ?_)
  refine wpAny_bind (wpAny_pure (wpAny_bind (L0.at (wpAny_bind (L3.at ?_)))))
  show wpAny _ _ (holding [Value.builtin "object.__class__"] (call (.builtin "getset_descriptor.__get__") [.builtin "object.__class__", .ref x, .ref D]) >>= ret) _ _ _
  refine wpAny_bind (wpAny_holding (wpAny_call (class_get (s := ⟨hp, g, d, t + 1, os⟩) (ox := ox) (od := od) X I T.hm ?_)))
  refine wpAny_pure ?_
  show wpAny _ _ (handedOut (.ref D)) _ _ _
  rw [handedOut_of (v := .ref D) rfl]
  first
    | exact wpAny_pure (wpAny_pure h)
    | exact wpAny_pure h
    | exact wpAny_pure (wpAny_bind (wpAny_pure (wpAny_pure h)))
theorem kitx_excD (T : L2.ExcC K D) : KitX K (.ref x) (.ref D) (fun h => ∃ od, InstAt h x ox D od) where
  ty := fun _ _ _ I => by
    obtain ⟨_, I⟩ := I
    exact I.type
  it := fun M h X _ => by
    obtain ⟨cdD, hcD, _⟩ := any_some T.hd
    unfold clsIn at hcD
    split at hcD
    · rename_i c' d' cd' sl' ho
      intro A' Q' E' s' k q
      unfold isType loadHead
      exact wpAny_bind (wpAny_loadPart (k _ _ (X _ _ ho)) (wpAny_pure q))
    · cases hcD
  ne := fun h tp dd its n sl X htp => by
    obtain ⟨cdD, hcD, _⟩ := any_some T.hd
    refine Bool.eq_false_iff.mpr fun q => ?_
    have e : D = tp := Value.ref.inj (beq_iff_eq.mp q)
    subst e
    unfold clsIn at hcD
    split at hcD
    · rename_i c' d' cd' sl' ho
      have z := (X _ _ ho).symm.trans htp
      cases z
    · cases hcD
  ca := fun X I k => by
    obtain ⟨_, I⟩ := I
    exact kin_classD T X I k
end
end PySem.W
namespace L2
open PySem PySem.Spec PyProof.Rows
section
variable {X : Cx}
/-- isinstance(e, c), e the exception that the suite holds, with a dict or without -/
theorem call_isED {a D : Addr} {d : Option Addr} {oe : Obj} {pn : List (Addr × Obj)} (C : ExcC X.K D) (hz : Zc (.ref D) d oe) (hf : ∃ vs, oe.data = .fields vs) (hd : ∀ (pins : List (Addr × Obj)) (σ : St) (H : Hp) (s : Shared), Inv (X.suite a ((a, oe) :: pn)) pins σ H s → ∀ dd, d = some dd → ∃ od, s.heap.get? dd = some od) :
    CallR (X.suite a ((a, oe) :: pn)) (.builtin "isinstance") (rIsE X.K D a) := by
  intro pins s σ H xs us Q I r h
  obtain ⟨c, cv, b, rfl, hcv, e, q⟩ := h
  cases r with
  | cons rx rr =>
    cases rr with
    | cons rt rr =>
      cases rr
      cases rx
      have ec := hcv _ rt
      subst ec
      obtain ⟨hget, _⟩ := I.pin (a, oe) (List.mem_append.mpr (.inl List.mem_cons_self))
      obtain ⟨vs, hv⟩ := hf
      have J : ∃ od, PySem.W.InstAt s.heap a oe D od := by
        have hd' := hd pins σ H s I
        obtain ⟨oc, od, oda, osl⟩ := oe
        obtain ⟨h1, h2⟩ := hz
        dsimp only at h1 h2 hv
        subst h1 h2 hv
        cases od with
        | none => exact ⟨none, hget, rfl, rfl, trivial⟩
        | some dd =>
          obtain ⟨o, ho⟩ := hd' dd rfl
          exact ⟨some o, hget, rfl, rfl, ho⟩
      exact PySem.W.kia_one (PySem.W.kitx_excD C) I.kIn J e (fun z => nomatch z) fun tk => ⟨.bl b, H, I.kept (t' := tk) fun _ _ z => z, rfl, q⟩
/-- the same where the dict is tracked: the reading asks it -/
def rIsED (K : PySem.W.Frag) (D a : Addr) (cls : Value) (d : Option Addr) : List V → Hp → VK → Prop := fun xs H Q => cls = .ref D ∧ (∀ dd, d = some dd → ∃ fs, H dd = some (.xd fs)) ∧ ∃ (c : V) (cv : Value) (b : Bool), xs = [.ref a, c] ∧ (∀ u, RelV c u → u = cv) ∧ PySem.W.kitOne K (.ref D) cv = some b ∧ Q (.bl b) H
theorem call_isEX {a D : Addr} {cls : Value} {d : Option Addr} {oe : Obj} {pn : List (Addr × Obj)} (C : ExcC X.K D) (hz : Zc cls d oe) (hf : ∃ vs, oe.data = .fields vs) : CallR (X.suite a ((a, oe) :: pn)) (.builtin "isinstance") (rIsED X.K D a cls d) := by
  intro pins s σ H xs us Q I r h
  obtain ⟨ec0, hdd, c, cv, b, rfl, hcv, e, q⟩ := h
  subst ec0
  cases r with
  | cons rx rr =>
    cases rr with
    | cons rt rr =>
      cases rr
      cases rx
      have ec := hcv _ rt
      subst ec
      obtain ⟨hget, _⟩ := I.pin (a, oe) (List.mem_append.mpr (.inl List.mem_cons_self))
      obtain ⟨vs, hv⟩ := hf
      have J : ∃ od, PySem.W.InstAt s.heap a oe D od := by
        obtain ⟨oc, od, oda, osl⟩ := oe
        obtain ⟨h1, h2⟩ := hz
        dsimp only at h1 h2 hv
        subst h1 h2 hv
        cases od with
        | none => exact ⟨none, hget, rfl, rfl, trivial⟩
        | some dd =>
          obtain ⟨fs, hfs⟩ := hdd dd rfl
          obtain ⟨mA, hns, _⟩ := (show ObjOk X.prog X.w H s.heap dd (.xd fs) from I.hok dd _ hfs)
          obtain ⟨od, ho, _⟩ := lookIn_ns hns
          exact ⟨some od, hget, rfl, rfl, ho⟩
      exact PySem.W.kia_one (PySem.W.kitx_excD C) I.kIn J e (fun z => nomatch z) fun tk => ⟨.bl b, H, I.kept (t' := tk) fun _ _ z => z, rfl, q⟩
end
section
variable {X : Cx} {CX : CXT} {k : Nat} {f C : Addr} {fd : FuncData} {ps : List Str} {sp : Sp} {dvs : List V} {ds : List Value} {E : St → XK} {x m : Str} {p pos apos : Pos} {e o : Expr} {es : List Expr} {ta : TE} {t : TA}
/-- C(e, ..) where what is raised is wished for at the slots as they stand -/
def tMakeS (C : Addr) (sp : Sp) (dvs : List V) (E : St → XK) (t : TA) : TE := fun σ H Q => t σ H fun vs H1 => ∀ x dx, H1 x = none → H1 dx = none → dx ≠ x →
  sp (.ref x :: (vs ++ dvs)) (upd (upd H1 dx (.own x)) x (.ins C dx [])) (fun v H2 => v = .non ∧ Q (.ref x) H2) (fun cls d H2 => E σ cls d H2)
theorem run_makeS {pins : List (Addr × Obj)} {σ : St} {H : Hp} {s : Shared} {Q : VK} {us : List Value} {vs : List V} (M : Mk X.K C f) (F : FnOk X.prog X.w X.K X.mg X.base CX k f fd ps sp) (hr : Room (k + 1) X.A) (hb : Binds X.K fd ps ds) (hd : Vals dvs ds)
    (hx : PassesAt CX X σ (E σ)) (I : Inv X pins σ H s) (r : Vals vs us)
    (h : ∀ x dx, H x = none → H dx = none → dx ≠ x → sp (.ref x :: (vs ++ dvs)) (upd (upd H dx (.own x)) x (.ins C dx [])) (fun v H2 => v = .non ∧ Q (.ref x) H2) (E σ)) :
    wpAny (model X.prog X.w) X.A (call (.ref C) us) (EP X pins σ Q) X.xe s := by
  have hq := h (s.heap.objs.size + 1) s.heap.objs.size (I.hok.fresh (Nat.le_succ _)) (I.hok.fresh (Nat.le_refl _)) (Nat.ne_of_lt (Nat.lt_succ_self _))
  have I2 := Inv.made (C := C) I
  have r2 : Vals (V.ref (s.heap.objs.size + 1) :: (vs ++ dvs)) (Value.ref (s.heap.objs.size + 1) :: (us ++ ds)) := .cons rfl (r.append hd)
  have hl : (Value.ref (s.heap.objs.size + 1) :: us ++ ds).length = ps.length := by
    have e := r2.length
    rw [F.len _ _ _ _ hq] at e
    exact e.symm
  refine wpAny_call (make_map (f := f) I.kIn M.makes M.init (beq_iff_eq.mp M.fn) (codeAny_mono (F.run _ X.stack _ _ ⟨Value.ref (s.heap.objs.size + 1) :: us, []⟩ (Value.ref (s.heap.objs.size + 1) :: (us ++ ds)) _ _ (E σ) (hr.make C us [])
    (I2.env0.make C us []) (hb _ (Value.ref (s.heap.objs.size + 1) :: us) I2.kIn hl) r2 hq) fun r s' hq' => ?_))
  cases r with
  | error e => exact hx pins _ _ e s' I2 hq'
  | ok fl =>
    cases fl with
    | ret u =>
      obtain ⟨v, H', I3, rv, ev, q3⟩ := I2.after hq'
      subst ev
      exact ⟨rv, ⟨V.ref (s.heap.objs.size + 1), H', I3, rfl, q3⟩⟩
    | next => exact False.elim hq'
    | brk => exact False.elim hq'
    | cont => exact False.elim hq'
theorem pe_makeS (M : Mk X.K C f) (F : FnOk X.prog X.w X.K X.mg X.base CX k f fd ps sp) (hr : Room (k + 1) X.A) (hg : Gl X x) (hm : X.mg x = some (.ref C)) (hb : Binds X.K fd ps ds) (hd : Vals dvs ds) (hx : ∀ σ, PassesAt CX X σ (E σ))
    (ha : PA X (e :: es) t) (hdb : (x == ("__debug__" : Str)) = false := by decide) (he : starEach (e :: es) X.env = (false, eval e X.env) :: starEach es X.env := by rfl) (hpl : (backTo pos (starEach es X.env)).any (·.1) = false := by rfl) :
    PE X (.Call (.Name x p) (e :: es) [] pos) (tMakeS C sp dvs E t) := by
  refine ⟨fun pins s σ H Q I h => ?_⟩
  refine wpAny_Call_Name_kw (ld_glob I hg hm ?_ hdb)
  refine PySem.W.callWith_K (h₀ := X.base) I.ok.mod.kin M.kp (thn (ha.run pos pins s σ H _ I h) fun us s1 ⟨vs, H1, I1, r, q⟩ => ⟨I1.kIn, ?_⟩) he hpl
  exact run_makeS M F hr hb hd (hx σ) I1 r q
/-- o.m(e, ..) | o.m() likewise -/
def tMethSD (C : Addr) (m : Str) (sp : Sp) (dvs : List V) (E : St → XK) (ta : TE) (t : TA) : TE := fun σ H Q => ta σ H fun x H1 => ∃ a dx fs, x = .ref a ∧ H1 a = some (.ins C dx fs) ∧ fs.lookup m = none ∧
  t σ H1 fun vs H2 => sp (x :: (vs ++ dvs)) H2 Q (E σ)
theorem pe_methSD {pl : Sem Bool} (he : PE X o ta) (c : Cls X.K C) (hm : Meth X.K C m f) (F : FnOk X.prog X.w X.K X.mg X.base CX k f fd ps sp) (hr : Room k X.A) (hb : Binds X.K fd ps ds) (hd : Vals dvs ds) (hx : ∀ σ, PassesAt CX X σ (E σ)) (ha : PA X (e :: es) t)
    (hst : starEach (e :: es) X.env = (false, eval e X.env) :: starEach es X.env := by rfl) (hpl : (backTo pos (starEach es X.env)).any (·.1) = false := by rfl)
    (ht : eval (.Call (.Attribute o m apos) (e :: es) [] pos) X.env = (do
      let ov ← eval o X.env
      standAt apos.atName
      let (f, first) ← holding [ov] (getMethod ov m pl)
      callWith pos f first (backTo pos (starEach (e :: es) X.env)) (backToKw pos (keywordEach [] X.env))) := by rfl) :
    PE X (.Call (.Attribute o m apos) (e :: es) [] pos) (tMethSD C m sp dvs E ta t) := by
  refine ⟨fun pins s σ H Q I h => ?_⟩
  refine PySem.W.methodCall_KW (pl := pl) (thn (he.run pins s σ H _ I h) fun u s1 ⟨x, H1, I1, rx, a, dx, fs, ex, ea, l, q⟩ => ?_) ht
  subst ex
  obtain rfl : u = Value.ref a := rx
  refine getmeth_ok I1 ea c hm l ?_
  refine PySem.W.callWith_K (first := [.ref a]) (h₀ := X.base) I.ok.mod.kin hm.kp (thn (ha.run pos pins s1 σ H1 _ I1 q) fun us s2 ⟨vs, H2, I2, r, q2⟩ => ⟨I2.kIn, ?_⟩) hst hpl
  exact run_fnSD (us := .ref a :: us) (vs := .ref a :: vs) F hr hb hd (hx σ) I2 (.cons rfl r) q2
theorem pe_methSD0 {pl : Sem Bool} (he : PE X o ta) (c : Cls X.K C) (hm : Meth X.K C m f) (F : FnOk X.prog X.w X.K X.mg X.base CX k f fd ps sp) (hr : Room k X.A) (hb : Binds X.K fd ps ds) (hd : Vals dvs ds) (hx : ∀ σ, PassesAt CX X σ (E σ))
    (ht : eval (.Call (.Attribute o m apos) [] [] pos) X.env = (do
      let ov ← eval o X.env
      standAt apos.atName
      let (f, first) ← holding [ov] (getMethod ov m pl)
      callWith pos f first (backTo pos (starEach [] X.env)) (backToKw pos (keywordEach [] X.env))) := by rfl) :
    PE X (.Call (.Attribute o m apos) [] [] pos) (tMethSD C m sp dvs E ta tNil) := by
  refine ⟨fun pins s σ H Q I h => ?_⟩
  refine PySem.W.methodCall_KW (pl := pl) (thn (he.run pins s σ H _ I h) fun u s1 ⟨x, H1, I1, rx, a, dx, fs, ex, ea, l, q⟩ => ?_) ht
  subst ex
  obtain rfl : u = Value.ref a := rx
  refine getmeth_ok I1 ea c hm l ?_
  exact PySem.W.callWith_K0 (first := [.ref a]) I1.kIn hm.kp (run_fnSD (us := [.ref a]) (vs := [.ref a]) F hr hb hd (hx σ) I1 (.cons rfl .nil) q)
end

/-! ### own errors with one field -/
/-- what __init__ of such an error does: self.f = v -/
def spXI (C : Addr) (f : Str) : Sp := fun vs H Q _ => ∃ (a : Addr) (y : V), vs = [.ref a, y] ∧ H a = some (exo a C none) ∧ ∀ dx, H dx = none → dx ≠ a → Q .non (upd (upd H dx (exd dx [(f, y)])) a (exo a C (some dx)))
/-- all that is asked of the class x of errors at C, whose field is f -/
structure XCls (P : Program) (w : World) (K : PySem.W.Frag) (mg : Str → Option Value) (base : Heap) (x f : Str) (C : Addr) : Prop where
  ox : OexC K C
  gC : mg x = some (.ref C)
  noA : PySem.W.findIn K (.ref C) f = some none
  ec : ExcC K C
  ini : ∃ (fI : Addr) (fd : FuncData), PySem.W.findIn K (.ref C) "__init__" = some (some (.ref fI)) ∧ PySem.W.typeIn K (.ref fI) = some (.type "function") ∧ FnOk P w K mg base CX0 1 fI fd ["self", f] (spXI C f) ∧ Binds K fd ["self", f] []
theorem XCls.xf {P : Program} {w : World} {K : PySem.W.Frag} {mg : Str → Option Value} {base : Heap} {x f : Str} {C : Addr} (T : XCls P w K mg base x f C) : XfC K C := ⟨T.ec.hg, T.ec.hk, T.ec.hs, T.ec.hd⟩
section
variable {X : Cx} {C : Addr} {x f : Str} {e : Expr} {te : TE} {p pos pos2 : Pos}
theorem pmk_X (T : XCls X.prog X.w X.K X.mg X.base x f C) (hr : Room 2 X.A) (he : PE X e te) (hg : Gl X x) (hdb : (x == ("__debug__" : Str)) = false := by decide)
    (hs : starEach [e] X.env = (false, eval e X.env) :: starEach [] X.env := by rfl) (hpl : (backTo pos (starEach [] X.env)).any (·.1) = false := by rfl) :
    PMk X (.Call (.Name x p) [e] [] pos) (tMkO C (spXI C f) [] (tCons te tNil)) := by
  obtain ⟨fI, fd, i1, i2, F, b⟩ := T.ini
  exact pmk_oex (dvs := []) (ds := []) T.ox i1 i2 F hr b .nil pass0 hg T.gC (pa_cons he pa_nil hs) hdb hs hpl
/-- what is left to be shown behind the argument y -/
theorem mkX_fin {H1 : Hp} {y : V} {Q : XK} (h : ∀ d, H1 d = none → Q (.ref C) (some d) (upd H1 d (.xd [(f, y)]))) :
    [y].length ≤ 1000 ∧ ∀ a, H1 a = none → spXI C f (.ref a :: ([y] ++ [])) (upd H1 a (exo a C none))
      (fun v H2 => v = .non ∧ ∃ (d : Addr) (fs : List (Str × V)), H2 a = some (exo a C (some d)) ∧ H2 d = some (exd d fs) ∧ H1 d = none ∧ Q (.ref C) (some d) (upd (del H2 a) d (.xd fs))) (fun _ _ _ => False) := by
  refine ⟨by show 1 ≤ 1000; decide, fun a ha => ⟨a, y, rfl, upd_same, fun dx hdx hne => ⟨rfl, dx, [(f, y)], upd_same, ?_, ?_, ?_⟩⟩⟩
  · rw [upd_ne hne, upd_same]
  · rw [upd_ne hne] at hdx
    exact hdx
  · have hdx' : H1 dx = none := by
      rw [upd_ne hne] at hdx
      exact hdx
    have e : upd (del (upd (upd (upd H1 a (exo a C none)) dx (exd dx [(f, y)])) a (exo a C (some dx))) a) dx (.xd [(f, y)]) = upd H1 dx (.xd [(f, y)]) := by
      funext b
      by_cases hb : b = dx
      · rw [hb, upd_same, upd_same]
      · rw [upd_ne hb, upd_ne hb]
        by_cases hba : b = a
        · rw [hba, del_same, ha]
        · rw [del_ne hba, upd_ne hba, upd_ne hb, upd_ne hba]
    rw [e]
    exact h dx hdx'
end
end L2

set_option Elab.async false
set_option maxRecDepth 100000
set_option maxHeartbeats 4000000
namespace L2
open PySem PySem.Spec PyProof.Rows
section
variable (P : Program) (w : World) (K : PySem.W.Frag) (mg : Str → Option Value) (base : Heap)
/-- a def of the top, as the text has it -/
structure DefAt (x : Str) (st : Stmt) (ps : List Str) : Prop where
  ex : ∃ (f : Addr) (fd : FuncData), Fun K x x st f fd ∧ mg x = some (.ref f) ∧ Binds K fd ps []
/-- a def of the top that keeps its promise -/
structure Own (CX : CXT) (x : Str) (k : Nat) (ps : List Str) (sp : Sp) : Prop where
  ex : ∃ (f : Addr) (fd : FuncData), FnOk P w K mg base CX k f fd ps sp ∧ mg x = some (.ref f) ∧ PySem.W.keepIn K (.ref f) = true ∧ Binds K fd ps []
/-- a method of the class at C, as the text has it; one that keeps its promise -/
structure MethAt (C : Addr) (m qual : Str) (st : Stmt) (ps : List Str) : Prop where
  ex : ∃ (f : Addr) (fd : FuncData), Fun K m qual st f fd ∧ PySem.W.findIn K (.ref C) m = some (some (.ref f)) ∧ PySem.W.isFn K (.ref f) = true ∧ Binds K fd ps []
structure OwnM (CX : CXT) (C : Addr) (m : Str) (k : Nat) (ps : List Str) (sp : Sp) : Prop where
  ex : ∃ (f : Addr) (fd : FuncData), FnOk P w K mg base CX k f fd ps sp ∧ Meth K C m f ∧ PySem.W.isFn K (.ref f) = true ∧ Binds K fd ps []
/-- a class of the top with an own __init__ that keeps its promise -/
structure OwnC (CX : CXT) (x : Str) (C : Addr) (k : Nat) (ps : List Str) (sp : Sp) : Prop where
  ex : ∃ (f : Addr) (fd : FuncData), FnOk P w K mg base CX k f fd ps sp ∧ Mk K C f ∧ mg x = some (.ref C) ∧ Binds K fd ps []
end
section
variable {P : Program} {w : World} {K : PySem.W.Frag} {mg : Str → Option Value} {base : Heap} {CX : CXT} {x m qual : Str} {k : Nat} {ps : List Str} {sp : Sp} {st : Stmt} {C : Addr}
theorem DefAt.own (D : DefAt K mg x st ps) (h : ∀ f fd, Fun K x x st f fd → FnOk P w K mg base CX k f fd ps sp) : Own P w K mg base CX x k ps sp := by
  obtain ⟨f, fd, F, hm, hb⟩ := D.ex
  exact ⟨f, fd, h f fd F, hm, F.kp, hb⟩
theorem MethAt.own (D : MethAt K C m qual st ps) (h : ∀ f fd, Fun K m qual st f fd → FnOk P w K mg base CX k f fd ps sp) : OwnM P w K mg base CX C m k ps sp := by
  obtain ⟨f, fd, F, hm, hi, hb⟩ := D.ex
  exact ⟨f, fd, h f fd F, ⟨hm, hi, F.kp⟩, hi, hb⟩
theorem MethAt.cls (D : MethAt K C "__init__" qual st ps) (h : ∀ f fd, Fun K "__init__" qual st f fd → FnOk P w K mg base CX k f fd ps sp) (m1 : PySem.W.makesIn K C = true) (m2 : PySem.W.keepIn K (.ref C) = true) (m3 : mg x = some (.ref C)) :
    OwnC P w K mg base CX x C k ps sp := by
  obtain ⟨f, fd, F, hm, hi, hb⟩ := D.ex
  exact ⟨f, fd, h f fd F, ⟨m1, hm, hi, m2⟩, m3, hb⟩
end
section
variable {X : Cx} {CX : CXT} {x m : Str} {k : Nat} {ps : List Str} {sp : Sp} {e o : Expr} {es : List Expr} {t : TA} {ta : TE} {p pos apos : Pos} {C : Addr}
theorem pe_own (O : Own X.prog X.w X.K X.mg X.base CX x k ps sp) (hr : Room k X.A) (hx : Passes CX X E0) (ha : PA X (e :: es) t) (hg : Gl X x := by rfl) (hdb : (x == ("__debug__" : Str)) = false := by decide)
    (he : starEach (e :: es) X.env = (false, eval e X.env) :: starEach es X.env := by rfl) (hpl : (backTo pos (starEach es X.env)).any (·.1) = false := by rfl) : PE X (.Call (.Name x p) (e :: es) [] pos) (tCall sp [] E0 t) := by
  obtain ⟨f, fd, F, hm, hk, hb⟩ := O.ex
  exact pe_call F hr hg hm hk hb .nil hx ha hdb he hpl
theorem pe_own0 (O : Own X.prog X.w X.K X.mg X.base CX x k ps sp) (hr : Room k X.A) (hx : Passes CX X E0) (hg : Gl X x := by rfl) (hdb : (x == ("__debug__" : Str)) = false := by decide) : PE X (.Call (.Name x p) [] [] pos) (tCall sp [] E0 tNil) := by
  obtain ⟨f, fd, F, hm, hk, hb⟩ := O.ex
  exact pe_call0 F hr hg hm hk hb .nil hx hdb
/-- one that may raise; W is wished for what it raises -/
theorem pe_ownS {W : WX} (O : Own X.prog X.w X.K X.mg X.base (L2.CX X.prog X.w) x k ps sp) (hr : Room k X.A) (tk : Takes X W) (ha : PA X (e :: es) t) (hg : Gl X x := by rfl) (hdb : (x == ("__debug__" : Str)) = false := by decide)
    (he : starEach (e :: es) X.env = (false, eval e X.env) :: starEach es X.env := by rfl) (hpl : (backTo pos (starEach es X.env)).any (·.1) = false := by rfl) : PE X (.Call (.Name x p) (e :: es) [] pos) (tCallS sp (WE W) t) := by
  obtain ⟨f, fd, F, hm, hk, hb⟩ := O.ex
  exact pe_callS F hr hg hm hk hb (fun σ => passAt tk σ) ha hdb he hpl
theorem pe_new (O : OwnC X.prog X.w X.K X.mg X.base CX x C k ps sp) (hr : Room (k + 1) X.A) (hx : Passes CX X E0) (ha : PA X (e :: es) t) (hg : Gl X x := by rfl) (hdb : (x == ("__debug__" : Str)) = false := by decide)
    (he : starEach (e :: es) X.env = (false, eval e X.env) :: starEach es X.env := by rfl) (hpl : (backTo pos (starEach es X.env)).any (·.1) = false := by rfl) : PE X (.Call (.Name x p) (e :: es) [] pos) (tMake C sp [] E0 t) := by
  obtain ⟨f, fd, F, M, hm, hb⟩ := O.ex
  exact pe_make M F hr hg hm hb .nil hx ha hdb he hpl
theorem pe_newS {W : WX} (O : OwnC X.prog X.w X.K X.mg X.base (L2.CX X.prog X.w) x C k ps sp) (hr : Room (k + 1) X.A) (tk : Takes X W) (ha : PA X (e :: es) t) (hg : Gl X x := by rfl) (hdb : (x == ("__debug__" : Str)) = false := by decide)
    (he : starEach (e :: es) X.env = (false, eval e X.env) :: starEach es X.env := by rfl) (hpl : (backTo pos (starEach es X.env)).any (·.1) = false := by rfl) : PE X (.Call (.Name x p) (e :: es) [] pos) (tMakeS C sp [] (WE W) t) := by
  obtain ⟨f, fd, F, M, hm, hb⟩ := O.ex
  exact pe_makeS M F hr hg hm hb .nil (fun σ => passAt tk σ) ha hdb he hpl
theorem pe_gint {n : Int} (hm : ∃ t, X.mg x = some (.int n t)) (hg : Gl X x := by rfl) (hd : (x == ("__debug__" : Str)) = false := by decide) : PE X (.Name x pos) (tC (.int n)) := by
  obtain ⟨t, hm⟩ := hm
  exact pe_glob hg hm ⟨t, rfl⟩ hd
theorem pe_gcls (hm : X.mg x = some (.ref C)) (hg : Gl X x := by rfl) (hd : (x == ("__debug__" : Str)) = false := by decide) : PE X (.Name x pos) (tC (.ref C)) := pe_glob hg hm rfl hd
end
/-! ### ==, != by own methods, len -/
section
variable {X : Cx} {CX : CXT} {k : Nat} {C : Addr} {ps : List Str} {sp : Sp}
structure NeM (K : PySem.W.Frag) (C : Addr) : Prop where
  ne : PySem.W.findIn K (.ref C) "__ne__" = some (some (.builtin "object.__ne__"))
  ob : PySem.W.mroIn K C (.type "object") = some true
theorem eqO (O : OwnM X.prog X.w X.K X.mg X.base CX C "__eq__" k ps sp) (N : NeM X.K C) (hr : Room k X.A) (hx : Passes CX X E0) : OpR X (compareOp .Eq) (rEqO X.K C sp) := by
  obtain ⟨f, fd, F, M, hi, hb⟩ := O.ex
  exact op_eqO F ⟨M.at_, hi, N.ne, N.ob⟩ hr hb hx
theorem neO (O : OwnM X.prog X.w X.K X.mg X.base CX C "__eq__" k ps sp) (N : NeM X.K C) (hr : Room (k + 1) X.A) (hx : Passes CX X E0) : OpR X (compareOp .NotEq) (rNeO X.K C sp) := by
  obtain ⟨f, fd, F, M, hi, hb⟩ := O.ex
  exact op_neO F ⟨M.at_, hi, N.ne, N.ob⟩ hr hb hx
theorem lenO (O : OwnM X.prog X.w X.K X.mg X.base CX C "__len__" k ps sp) (hr : Room (k + 1) X.A) (hx : Passes CX X E0) : CallR X (.builtin "len") (rLenO C sp) := by
  obtain ⟨f, fd, F, M, hi, hb⟩ := O.ex
  exact call_lenO F M.at_ hi hr hb hx
end
end L2

set_option Elab.async false
set_option maxRecDepth 100000
set_option maxHeartbeats 4000000
/-! kinds of plain values; their isinstance -/
namespace L2
open PySem PySem.Spec PyProof.Rows
inductive Knd | int | bool | none | str | list | tuple
  deriving DecidableEq
def Knd.name : Knd → String
  | .int => "int" | .bool => "bool" | .none => "NoneType" | .str => "str" | .list => "list" | .tuple => "tuple"
def KndOf (H : Hp) (v : V) : Knd → Prop
  | .int => ∃ n, v = .int n
  | .bool => ∃ b, v = .bl b
  | .none => v = .non
  | .str => ∃ s, v = .str s
  | .list => ∃ a xs, v = .ref a ∧ H a = some (.lst xs)
  | .tuple => ∃ a xs, v = .ref a ∧ H a = some (.tup xs)
def Knd.isInt : Knd → Bool | .int => true | .bool => true | _ => false
def Knd.isBool : Knd → Bool | .bool => true | _ => false
def Knd.isSeq : Knd → Bool | .list => true | .tuple => true | _ => false
def Knd.isTup : Knd → Bool | .tuple => true | _ => false
def Knd.isList : Knd → Bool | .list => true | _ => false
def Knd.isStr : Knd → Bool | .str => true | _ => false
section
variable {K : PySem.W.Frag} {H : Hp} {v : V} {k : Knd}
theorem knd_ty (h : KndOf H v k) : TyX K H v (.type k.name) := by
  cases k with
  | int => obtain ⟨n, rfl⟩ := h; exact .base (.int n)
  | bool => obtain ⟨n, rfl⟩ := h; exact .base (.bl n)
  | none => cases h; exact .base .non
  | str => obtain ⟨n, rfl⟩ := h; exact .base (.str n)
  | list => obtain ⟨a, xs, rfl, e⟩ := h; exact .base (.lst e)
  | tuple => obtain ⟨a, xs, rfl, e⟩ := h; exact .base (.tup e)
theorem knd_int : PySem.W.kitOne K (.type k.name) (.type "int") = some k.isInt := by cases k <;> exact kit_ty (by decide +kernel)
theorem knd_bool : PySem.W.kitOne K (.type k.name) (.type "bool") = some k.isBool := by cases k <;> exact kit_ty (by decide +kernel)
theorem knd_tup : PySem.W.kitOne K (.type k.name) (.type "tuple") = some k.isTup := by cases k <;> exact kit_ty (by decide +kernel)
theorem knd_list : PySem.W.kitOne K (.type k.name) (.type "list") = some k.isList := by cases k <;> exact kit_ty (by decide +kernel)
theorem knd_str : PySem.W.kitOne K (.type k.name) (.type "str") = some k.isStr := by cases k <;> exact kit_ty (by decide +kernel)
theorem knd_seq : PySem.W.kitAny K (.type k.name) [.type "list", .type "tuple"] = some k.isSeq := by
  cases k
  case list => exact kitAny_cons knd_list (by intro h; cases h) (fun _ => rfl)
  case tuple => exact kitAny_cons knd_list (fun _ => kitAny_cons knd_tup (by intro h; cases h) (fun _ => rfl)) (by intro h; cases h)
  all_goals exact kitAny_cons knd_list (fun _ => kitAny_cons knd_tup (fun _ => kitAny_nil) (by intro h; cases h)) (by intro h; cases h)
theorem KndOf.ext {H' : Hp} (h : KndOf H v k) (e : Ext H H') : KndOf H' v k := by
  cases k with
  | list => obtain ⟨a, xs, r, q⟩ := h; exact ⟨a, xs, r, e _ _ q⟩
  | tuple => obtain ⟨a, xs, r, q⟩ := h; exact ⟨a, xs, r, e _ _ q⟩
  | _ => exact h
theorem ki (n : Int) : KndOf H (.int n) .int := ⟨n, rfl⟩
theorem kb (n : Bool) : KndOf H (.bl n) .bool := ⟨n, rfl⟩
theorem kn : KndOf H .non .none := rfl
theorem ks (n : Str) : KndOf H (.str n) .str := ⟨n, rfl⟩
end
/-- a value that is an int from a to b -/
def betw (v : V) (a b : Int) : Bool := match v with
  | .int n => decide (a ≤ n) && decide (n ≤ b)
  | _ => false
theorem betw_int {n a b : Int} : betw (.int n) a b = (decide (a ≤ n) && decide (n ≤ b)) := rfl
theorem betw_not {H : Hp} {v : V} {k : Knd} {a b : Int} (h : KndOf H v k) (hk : (k.isInt && !k.isBool) = false) : betw v a b = false := by
  cases k with
  | int => cases hk
  | bool => obtain ⟨n, rfl⟩ := h; rfl
  | none => cases h; rfl
  | str => obtain ⟨n, rfl⟩ := h; rfl
  | list => obtain ⟨n, xs, rfl, _⟩ := h; rfl
  | tuple => obtain ⟨n, xs, rfl, _⟩ := h; rfl
theorem knd_yes {k : Knd} (h : (k.isInt && !k.isBool) = true) : k = .int := by cases k <;> first | rfl | cases h
/-! ### isinstance, read -/
section
variable {K : PySem.W.Frag} {σ : St} {H : Hp} {v : V} {k : Knd} {Q : VK} {te : TE}
theorem v_isI (hk : KndOf H v k) {b : Bool} {c : String} (e : PySem.W.kitOne K (.type k.name) (.type c) = some b) (q : Q (.bl b) H) : rIsi K [v, .ty c] H Q :=
  ⟨v, .ty c, .type k.name, .type c, b, rfl, .ty c, knd_ty hk, e, q⟩
end
end L2

set_option Elab.async false
set_option maxRecDepth 100000
set_option maxHeartbeats 4000000
namespace L2
open PySem PySem.Spec PyProof.Rows
section
variable {K : PySem.W.Frag} {C : Addr}
theorem no_ref (l : List String) : (l.map Value.type).contains (Value.ref C) = false := by
  induction l with
  | nil => rfl
  | cons a l ih =>
    rw [List.map_cons, List.contains_cons, ih]
    rfl
theorem sub_ty_ref {T : String} (h : (fastFind? T).isSome = true) : PySem.W.subIn K (.type T) (.ref C) = some false := by
  obtain ⟨r, hr⟩ := Option.isSome_iff_exists.mp h
  show (fastBuiltinMro T).map (·.contains (Value.ref C)) = some false
  unfold fastBuiltinMro
  rw [hr]
  show some ((r.mro.map Value.type).contains (Value.ref C)) = some false
  rw [no_ref]
theorem knd_find (k : Knd) : (fastFind? k.name).isSome = true := by cases k <;> decide +kernel
/-- all that is asked of an own plain class x at C -/
structure ClsX (K : PySem.W.Frag) (mg : Str → Option Value) (x : Str) (C : Addr) : Prop where
  gC : mg x = some (.ref C)
  cl : Cls K C
  ha : PySem.W.findIn K (.ref C) "__class__" = some (some (.builtin "object.__class__"))
  hn : PySem.W.specialIn K (.builtin "object.__class__") "__get__" = some (some (.builtin "getset_descriptor.__get__"))
  htk : PySem.W.takesIn K (.builtin "object.__class__") = some true
  hm : PySem.W.mroIn K C (.type "object") = some true
  ne : PySem.W.findIn K (.ref C) "__ne__" = some (some (.builtin "object.__ne__"))
  is : PySem.W.isClsIn K C = true
  ty : PySem.W.typeIn K (.ref C) = some (.type "type")
  tup : PySem.W.subIn K (.ref C) (.type "tuple") = some false
  lst : PySem.W.subIn K (.ref C) (.type "list") = some false
  int : PySem.W.subIn K (.ref C) (.type "int") = some false
  str : PySem.W.subIn K (.ref C) (.type "str") = some false
variable {mg : Str → Option Value} {x : Str}
theorem ClsX.neM (T : ClsX K mg x C) : NeM K C := ⟨T.ne, T.hm⟩
theorem ClsX.tyOf (T : ClsX K mg x C) {H : Hp} {a dx : Addr} {fs : List (Str × V)} (e : H a = some (.ins C dx fs)) : TyX K H (.ref a) (.ref C) := .base (.ins e T.cl T.ha T.hn T.htk T.hm)
theorem ClsX.me (_ : ClsX K mg x C) : PySem.W.kitOne K (.ref C) (.ref C) = some true := if_pos (beq_self_eq_true _)
theorem ClsX.nfMe (_ : ClsX K mg x C) : PySem.W.notFirst K C (.ref C) = true := by
  show (Value.ref C == Value.ref C || _) = true
  rw [beq_self_eq_true]
  rfl
theorem ClsX.kitB (T : ClsX K mg x C) {t : Value} {b : Bool} (h : PySem.W.subIn K t (.ref C) = some b) (hne : (t == .ref C) = false) : PySem.W.kitOne K t (.ref C) = some b := by
  have e : ((PySem.W.clsIn K C).isSome && PySem.W.typeIn K (.ref C) == some (.type "type")) = true := by
    have h1 : (PySem.W.clsIn K C).isSome = true := T.is
    rw [h1, T.ty]
    rfl
  show (if (t == Value.ref C) = true then some true else if ((PySem.W.clsIn K C).isSome && PySem.W.typeIn K (.ref C) == some (.type "type")) = true then PySem.W.subIn K t (.ref C) else none) = some b
  rw [hne, if_neg Bool.false_ne_true, if_pos e]
  exact h
theorem ClsX.kitK (T : ClsX K mg x C) (k : Knd) : PySem.W.kitOne K (.type k.name) (.ref C) = some false := T.kitB (sub_ty_ref (knd_find k)) rfl
theorem ClsX.nfK (_ : ClsX K mg x C) (k : Knd) : PySem.W.notFirst K C (.type k.name) = true := by
  show (Value.type k.name == Value.ref C || PySem.W.subIn K (.type k.name) (.ref C) == some false) = true
  rw [sub_ty_ref (knd_find k)]
  exact Bool.or_eq_true_iff.mpr (.inr (by decide))
theorem kit_meta {T : String} {b : Bool} (h : PySem.W.subIn K (.ref C) (.type T) = some b) (hm : PySem.W.kitMeta T = true) : PySem.W.kitOne K (.ref C) (.type T) = some b := by
  show (if (Value.ref C == Value.type T) = true then some true else if PySem.W.kitMeta T = true then PySem.W.subIn K (.ref C) (.type T) else none) = some b
  rw [show (Value.ref C == Value.type T) = false from rfl, if_neg Bool.false_ne_true, if_pos hm]
  exact h
theorem ClsX.kTup (T : ClsX K mg x C) : PySem.W.kitOne K (.ref C) (.type "tuple") = some false := kit_meta T.tup (by decide +kernel)
theorem ClsX.kInt (T : ClsX K mg x C) : PySem.W.kitOne K (.ref C) (.type "int") = some false := kit_meta T.int (by decide +kernel)
theorem ClsX.kLst (T : ClsX K mg x C) : PySem.W.kitOne K (.ref C) (.type "list") = some false := kit_meta T.lst (by decide +kernel)
theorem ClsX.kStr (T : ClsX K mg x C) : PySem.W.kitOne K (.ref C) (.type "str") = some false := kit_meta T.str (by decide +kernel)
end
/-! ### an own error's class, from what the top has written -/
section
variable {P : Program} {w : World} {K : PySem.W.Frag} {mg : Str → Option Value} {base : Heap} {x f : Str} {C : Addr}
/-- what k_is finds of the class -/
structure XAt (K : PySem.W.Frag) (mg : Str → Option Value) (x f : Str) (C : Addr) (st : Stmt) (qual : Str) : Prop where
  ox : OexC K C
  gC : mg x = some (.ref C)
  noA : PySem.W.findIn K (.ref C) f = some none
  ec : ExcC K C
  tI : ∃ fI, PySem.W.findIn K (.ref C) "__init__" = some (some (.ref fI)) ∧ PySem.W.typeIn K (.ref fI) = some (.type "function") ∧ ∃ fd, Fun K "__init__" qual st fI fd ∧ Binds K fd ["self", f] []
theorem XAt.cls {st : Stmt} {qual : Str} (T : XAt K mg x f C st qual) (h : ∀ fI fd, Fun K "__init__" qual st fI fd → FnOk P w K mg base CX0 1 fI fd ["self", f] (spXI C f)) : XCls P w K mg base x f C := by
  obtain ⟨fI, i1, i2, fd, F, b⟩ := T.tI
  exact ⟨T.ox, T.gC, T.noA, T.ec, fI, fd, i1, i2, h fI fd F, b⟩
end
/-! ### fields -/
section
theorem lk_put {f g : Str} {v : V} {fs : List (Str × V)} : List.lookup g ((f, v) :: fs) = if (g == f) = true then some v else List.lookup g fs := by
  simp only [List.lookup]
  split
  · rename_i h; rw [h, if_pos rfl]
  · rename_i h; rw [h, if_neg Bool.false_ne_true]
end
end L2

set_option Elab.async false
set_option maxRecDepth 100000
set_option maxHeartbeats 4000000
/-! plain data: lists and tuples of flat values, compared -/
namespace L2
open PySem PySem.Spec PyProof.Rows
def pd : V → PyData
  | .int i => .int i
  | .bl b => .bool b
  | .str s => .str s
  | _ => .none
/-- flat, its text (if it is one) within the model's signs -/
def Fl : V → Prop
  | .int _ => True
  | .bl _ => True
  | .non => True
  | .str s => PySem.PyData.canLay0 (.str s) = true
  | _ => False
section
variable {K : PySem.W.Frag} {H : Hp} {v u : V}
theorem dp_fl (h : Fl v) : Dp K H v (pd v) := by
  cases v <;> first | exact .int _ | exact .bl _ | exact .str _ | exact .non | exact h.elim
theorem dp_all : ∀ {vs : List V}, (∀ v ∈ vs, Fl v) → DpAll K H vs (vs.map pd)
  | [], _ => .nil
  | v :: vs, h => .cons (dp_fl (h v List.mem_cons_self)) (dp_all fun u hu => h u (List.mem_cons_of_mem _ hu))
theorem lay_fl (h : Fl v) : (pd v).canLay0 = true := by
  cases v <;> first | rfl | exact h | exact h.elim
theorem dep_fl : (pd v).depth = 0 := by cases v <;> rfl
theorem lay_all : ∀ {vs : List V}, (∀ v ∈ vs, Fl v) → PyData.canLayAll0 (vs.map pd) = true ∧ PyData.depthAll (vs.map pd) = 0
  | [], _ => ⟨rfl, rfl⟩
  | v :: vs, h => by
    obtain ⟨a, b⟩ := lay_all (vs := vs) fun u hu => h u (List.mem_cons_of_mem _ hu)
    constructor
    · show ((pd v).canLay0 && PyData.canLayAll0 (vs.map pd)) = true
      rw [lay_fl (h v List.mem_cons_self), a]
      rfl
    · show max (pd v).depth (PyData.depthAll (vs.map pd)) = 0
      rw [dep_fl, b]
      rfl
theorem shp_fl (h : Fl v) : SeqAt.shaped (pd v) = true := by
  show ((pd v).canLay0 && decide ((pd v).depth ≤ 64)) = true
  rw [lay_fl h, dep_fl]
  rfl
theorem shp_tup {vs : List V} (h : ∀ v ∈ vs, Fl v) : SeqAt.shaped (.tuple (vs.map pd)) = true := by
  obtain ⟨a, b⟩ := lay_all h
  show (PyData.canLayAll0 (vs.map pd) && decide (PyData.depthAll (vs.map pd) + 1 ≤ 64)) = true
  rw [a, b]
  rfl
theorem shp_lst {vs : List V} (h : ∀ v ∈ vs, Fl v) : SeqAt.shaped (.list (vs.map pd)) = true := by
  obtain ⟨a, b⟩ := lay_all h
  show (PyData.canLayAll0 (vs.map pd) && decide (PyData.depthAll (vs.map pd) + 1 ≤ 64)) = true
  rw [a, b]
  rfl
theorem fl_int (n : Int) : Fl (.int n) := trivial
theorem fl_ints {ns : List Int} : ∀ v ∈ ns.map V.int, Fl v := fun v hv => by
  obtain ⟨n, _, rfl⟩ := List.mem_map.mp hv
  trivial
theorem eqv_ints : ∀ (ns ms : List Int), PyData.eqvAll ((ns.map V.int).map pd) ((ms.map V.int).map pd) = decide (ns = ms)
  | [], [] => rfl
  | [], _ :: _ => rfl
  | _ :: _, [] => rfl
  | n :: ns, m :: ms => by
    show ((n == m) && PyData.eqvAll ((ns.map V.int).map pd) ((ms.map V.int).map pd)) = decide (n :: ns = m :: ms)
    rw [eqv_ints ns ms, Bool.eq_iff_iff]
    simp
/-- the same values are equal data -/
theorem eqv_same : ∀ {vs : List V}, (∀ v ∈ vs, Fl v) → PyData.eqvAll (vs.map pd) (vs.map pd) = true
  | [], _ => rfl
  | v :: vs, h => by
    show (PyData.eqv (pd v) (pd v) && PyData.eqvAll (vs.map pd) (vs.map pd)) = true
    rw [eqv_same (vs := vs) fun u hu => h u (List.mem_cons_of_mem _ hu), Bool.and_true]
    cases v <;> first | rfl | (show (_ == _) = true; exact beq_self_eq_true _)
/-- two tuples compared (op_eqD, op_neD): what is left -/
theorem eqD_tup {p q : Addr} {vs us : List V} {Q : VK} (hp : SqT K H p vs) (hq : SqT K H q us) (fv : ∀ v ∈ vs, Fl v) (fu : ∀ v ∈ us, Fl v) (h : Q (.bl (PyData.eqvAll (vs.map pd) (us.map pd))) H) : rEqD K (.ref p) (.ref q) H Q :=
  ⟨_, _, .tup hp (dp_all fv), .tup hq (dp_all fu), shp_tup fv, shp_tup fu, h⟩
theorem neD_tup {p q : Addr} {vs us : List V} {Q : VK} (hp : SqT K H p vs) (hq : SqT K H q us) (fv : ∀ v ∈ vs, Fl v) (fu : ∀ v ∈ us, Fl v) (h : Q (.bl (!PyData.eqvAll (vs.map pd) (us.map pd))) H) : rNeD K (.ref p) (.ref q) H Q :=
  ⟨_, _, .tup hp (dp_all fv), .tup hq (dp_all fu), shp_tup fv, shp_tup fu, h⟩
theorem eqD_lst {p q : Addr} {vs us : List V} {Q : VK} (hp : SqL K H p vs) (hq : SqL K H q us) (fv : ∀ v ∈ vs, Fl v) (fu : ∀ v ∈ us, Fl v) (h : Q (.bl (PyData.eqvAll (vs.map pd) (us.map pd))) H) : rEqD K (.ref p) (.ref q) H Q :=
  ⟨_, _, .lst hp (dp_all fv), .lst hq (dp_all fu), shp_lst fv, shp_lst fu, h⟩
theorem neD_lst {p q : Addr} {vs us : List V} {Q : VK} (hp : SqL K H p vs) (hq : SqL K H q us) (fv : ∀ v ∈ vs, Fl v) (fu : ∀ v ∈ us, Fl v) (h : Q (.bl (!PyData.eqvAll (vs.map pd) (us.map pd))) H) : rNeD K (.ref p) (.ref q) H Q :=
  ⟨_, _, .lst hp (dp_all fv), .lst hq (dp_all fu), shp_lst fv, shp_lst fu, h⟩
end
end L2

set_option Elab.async false
set_option maxRecDepth 100000
set_option maxHeartbeats 4000000
namespace L2
open PySem PySem.Spec PyProof.Rows
section
variable {X : Cx}
/-- range(j), kept -/
theorem cr_range1 : CallR X (.type "range") (fun vs H Q => ∃ j, vs = [V.int j] ∧ ∀ p, H p = none → Q (.ref p) (upd H p (.rng 0 j))) := by
  intro pins s σ H vs us Q I r h
  obtain ⟨j, rfl, q⟩ := h
  obtain ⟨u1, rfl, rj⟩ := vals1 r
  obtain ⟨t, rfl⟩ := rj
  refine call_range_1 ⟨.ref s.heap.objs.size, upd H s.heap.objs.size (.rng 0 j), I.laid (t' := s.toks + 1 + 1) (fun b o e => Heap.get?_push_of_some _ e) (Nat.le_refl _) ?_, rfl, q _ (I.hok.fresh (Nat.le_refl _))⟩
  exact ⟨s.toks, t, s.toks + 1, Heap.get?_push_size _ rfl⟩
/-- len of a range -/
theorem call_lenR : CallR X (.builtin "len") (fun xs H Q => ∃ a lo hi, xs = [.ref a] ∧ H a = some (.rng lo hi) ∧ (hi - lo).toNat < 2 ^ 62 ∧ Q (.int ((hi - lo).toNat : Int)) H) := by
  intro pins s σ H xs us Q I r h
  obtain ⟨a, lo, hi, rfl, ha, hz, q⟩ := h
  rw [Vals.ref1 r]
  obtain ⟨t, u, v, ho⟩ := I.hok a _ ha
  exact call_len_range (n := (hi - lo).toNat) ho (rangeSize_nat lo hi) (by omega) ⟨.int ((hi - lo).toNat : Int), H, I.tok _, ⟨_, rfl⟩, q⟩
/-- sum of a tuple of ints -/
def rSumT (K : PySem.W.Frag) : List V → Hp → VK → Prop := fun vs H Q => ∃ (a : Addr) (ns : List Int), vs = [V.ref a] ∧ SqT K H a (ns.map V.int) ∧ Q (.int ns.sum) H
theorem cr_sumT (hc : X.calm = true) : CallR X (.builtin "sum") (rSumT X.K) := by
  intro pins s σ H vs us Q I r h
  obtain ⟨a, ns, rfl, hs, q⟩ := h
  obtain ⟨its, rv, hl, _⟩ := I.tuple hs
  rw [Vals.ref1 r]
  have hi := rv.ints
  obtain ⟨xs, e⟩ := hi.allInts.items
  have hn : numsOf (intItems xs).toList = ns := by rw [← e]; exact hi.numsOf
  rw [nums_intItems] at hn
  rw [e] at hl
  refine PySem.W.ktm_sumG (I.ok.hd hc) hl fun h' tk t' hk => ?_
  rw [preSum_eq, List.take_of_length_le (by simp), hn]
  exact ⟨.int ns.sum, H, I.kept hk, ⟨_, rfl⟩, q⟩
end
end L2

set_option Elab.async false
set_option maxRecDepth 100000
set_option maxHeartbeats 4000000
namespace L2
open PySem PySem.Spec PyProof.Rows
/-- a list or tuple at p of the items xs -/
def Sq (H : Hp) (p : Addr) (xs : List V) : Prop := H p = some (.lst xs) ∨ H p = some (.tup xs)
section
variable {K : PySem.W.Frag} {H H' : Hp} {p : Addr} {xs : List V}
theorem Sq.k (h : Sq H p xs) : ∃ k, KndOf H (.ref p) k ∧ k.isSeq = true := by
  rcases h with h | h
  · exact ⟨.list, ⟨p, xs, rfl, h⟩, rfl⟩
  · exact ⟨.tuple, ⟨p, xs, rfl, h⟩, rfl⟩
theorem Sq.ext (h : Sq H p xs) (e : Ext H H') : Sq H' p xs := h.imp (e _ _) (e _ _)
theorem Sq.l (h : Sq H p xs) : SqL K H p xs ∨ SqT K H p xs := h.imp SqL.of SqT.of
theorem ext_mut {D : Addr} {o : HO} (e : Ext H H') (h : H D = none) : Ext H (upd H' D o) := fun a u ha => by
  rw [upd_ne (ne_of_none ha h)]
  exact e a u ha
theorem ext_none {D : Addr} (e : Ext H H') (h : H' D = none) : H D = none := by
  cases h1 : H D with
  | none => rfl
  | some o =>
    rw [e D o h1] at h
    cases h
end
section
variable {X : Cx} {tg : Expr}
/-- a list or a tuple is walked -/
def iSq (K : PySem.W.Frag) (tl : TE) : TI := fun σ H R => tl σ H fun x H1 => ∃ a, x = .ref a ∧ (((∃ xs, SqL K H1 a xs) ∧ R (Itl K a) H1) ∨ ((∃ xs, SqT K H1 a xs) ∧ R (Itt K a) H1))
theorem pi_sq {l : Expr} {tl : TE} (hl : PE X l tl) : PI X tg l (iSq X.K tl) := by
  refine ⟨fun pins s σ H R I h => ?_⟩
  refine thn (hl.run pins s σ H _ I h) fun v s1 ⟨x, H1, I1, r1, q1⟩ => ?_
  obtain ⟨a, e, q1⟩ := q1
  subst e
  cases r1
  rcases q1 with ⟨⟨xs, hq⟩, q⟩ | ⟨⟨xs, hq⟩, q⟩
  · obtain ⟨its, rv, p, hz⟩ := I1.list hq
    refine wpAny_pyIter_list p.isList ?_
    refine ⟨s1.heap.objs.size, [s1.heap.objs.size], _, _, H1, rfl, I1.kept (t' := s1.toks) fun b o e => Heap.get?_push_of_some _ e, turn_list a _, ⟨_, Heap.get?_push_size _ rfl, rfl, rfl⟩, fun b hb => ?_, q⟩
    have e : b = s1.heap.objs.size := by simpa using hb
    subst e
    exact I1.fpOk (Nat.le_refl _) (I1.hok.fresh (Nat.le_refl _))
  · obtain ⟨its, rv, p, hz⟩ := I1.tuple hq
    refine wpAny_pyIter_tuple (show s1.heap.IsTuple a its.toArray from p) ?_
    refine ⟨s1.heap.objs.size, [s1.heap.objs.size], _, _, H1, rfl, I1.kept (t' := s1.toks) fun b o e => Heap.get?_push_of_some _ e, turn_tuple a _, ⟨_, Heap.get?_push_size _ rfl, rfl, rfl⟩, fun b hb => ?_, q⟩
    have e : b = s1.heap.objs.size := by simpa using hb
    subst e
    exact I1.fpOk (Nat.le_refl _) (I1.hok.fresh (Nat.le_refl _))
end
section
variable {K : PySem.W.Frag} {σ : St} {H : Hp} {p : Addr} {xs : List V} {te : TE} {tt : TT} {j : Nat} {vs : List Nat} {Q : VK}
theorem take_snoc {α : Type} {l : List α} {i : Nat} {x : α} (h : l[i]? = some x) : l.take (i + 1) = l.take i ++ [x] := by
  rw [List.take_add_one, h]
  rfl
/-- [f(x) for x in xs if b(x)], what is tested and made only adding to the heap: the reading behind the source's own -/
theorem lc_sqR {Qd : Addr → Hp → Prop} {f : V → V} {b : V → Bool} (hx : Sq H p xs) (hz : xs.length < sizeLine) (hw : ∀ x, wipe ((wipe σ vs).set j (some x)) vs = wipe σ vs)
    (ht : ∀ x ∈ xs, ∀ H', Ext H H' → ∀ Q : Bool → Hp → Prop, (∀ H'', Ext H' H'' → Q (b x) H'') → tt ((wipe σ vs).set j (some x)) H' Q)
    (he : ∀ x ∈ xs, b x = true → ∀ H', Ext H H' → ∀ Q : VK, (∀ H'', Ext H' H'' → Q (f x) H'') → te ((wipe σ vs).set j (some x)) H' Q)
    (q : ∀ D H', H D = none → Ext H H' → H' D = some (.lst ((xs.filter b).map f)) → Qd D H') :
    ((∃ xs, SqL K H p xs) ∧ (fun J H1 => ∀ D, H1 D = none → ∃ W : Nat → Nat → Hp → Prop, (∃ m, W 0 m (upd H1 D (.lst []))) ∧ ∀ i m H, W i m H →
      (J.stop i H ∧ Qd D H) ∨ (J.go i H ∧ ∃ Nx : Hp → Prop, (∀ H', Nx H' → ∃ m', m' < m ∧ W (i + 1) m' H') ∧ ∀ x H', J.yld i H x H' → gName j x (wipe σ vs) H' fun σ2 H2 => wipe σ2 vs = wipe σ vs ∧ tt σ2 H2 fun b H3 =>
        if b = true then te σ2 H3 fun y H4 => ∃ acc, H4 D = some (.lst acc) ∧ acc.length < sizeLine ∧ Nx (upd H4 D (.lst (acc ++ [y]))) else Nx H3)) (Itl K p) H) ∨
    ((∃ xs, SqT K H p xs) ∧ (fun J H1 => ∀ D, H1 D = none → ∃ W : Nat → Nat → Hp → Prop, (∃ m, W 0 m (upd H1 D (.lst []))) ∧ ∀ i m H, W i m H →
      (J.stop i H ∧ Qd D H) ∨ (J.go i H ∧ ∃ Nx : Hp → Prop, (∀ H', Nx H' → ∃ m', m' < m ∧ W (i + 1) m' H') ∧ ∀ x H', J.yld i H x H' → gName j x (wipe σ vs) H' fun σ2 H2 => wipe σ2 vs = wipe σ vs ∧ tt σ2 H2 fun b H3 =>
        if b = true then te σ2 H3 fun y H4 => ∃ acc, H4 D = some (.lst acc) ∧ acc.length < sizeLine ∧ Nx (upd H4 D (.lst (acc ++ [y]))) else Nx H3)) (Itt K p) H) := by
  have turn : ∀ (D : Addr), H D = none → ∀ i x H', xs[i]? = some x → (Ext H H' ∧ H' D = some (.lst (((xs.take i).filter b).map f))) → gName j x (wipe σ vs) H' fun σ2 H2 => wipe σ2 vs = wipe σ vs ∧ tt σ2 H2 fun b' H3 =>
      if b' = true then te σ2 H3 fun y H4 => ∃ acc, H4 D = some (.lst acc) ∧ acc.length < sizeLine ∧ (Ext H (upd H4 D (.lst (acc ++ [y]))) ∧ upd H4 D (.lst (acc ++ [y])) D = some (.lst (((xs.take (i + 1)).filter b).map f))) else (Ext H H3 ∧ H3 D = some (.lst (((xs.take (i + 1)).filter b).map f))) := by
    intro D hD i x H' hi pv
    obtain ⟨e, hl⟩ := pv
    have hm : x ∈ xs := List.mem_of_getElem? hi
    refine ⟨hw x, ht x hm H' e _ fun H3 e3 => ?_⟩
    have hl3 : H3 D = some (.lst (((xs.take i).filter b).map f)) := e3 _ _ hl
    cases hb : b x with
    | true =>
      refine iteT (he x hm hb H3 (e.trans e3) _ fun H4 e4 => ⟨_, e4 _ _ hl3, ?_, ext_mut ((e.trans e3).trans e4) hD, ?_⟩)
      · rw [List.length_map]
        refine Nat.lt_of_le_of_lt (Nat.le_trans (List.length_filter_le _ _) ?_) hz
        exact List.length_take_le' _ _
      · rw [upd_same, take_snoc hi, List.filter_append, List.map_append]
        simp [hb]
    | false =>
      refine iteF ⟨e.trans e3, ?_⟩
      rw [hl3, take_snoc hi, List.filter_append, List.map_append]
      simp [hb]
  have fin : ∀ D, H D = none → ∀ H', (Ext H H' ∧ H' D = some (.lst (((xs.take xs.length).filter b).map f))) → Qd D H' := fun D hD H' pv => by
    rw [List.take_length] at pv
    exact q D H' hD pv.1 pv.2
  rcases hx with hx | hx
  · refine .inl ⟨⟨xs, SqL.of hx⟩, fun D hD => lc_list (xs := xs) (fun i H' => Ext H H' ∧ H' D = some (.lst (((xs.take i).filter b).map f))) ⟨Ext.upd hD, upd_same⟩ (fun i H' _ pv => SqL.of (pv.1 _ _ hx)) (fun i x H' hi pv => turn D hD i x H' hi pv) (fun H' pv => fin D hD H' pv)⟩
  · refine .inr ⟨⟨xs, SqT.of hx⟩, fun D hD => lc_tup (xs := xs) (fun i H' => Ext H H' ∧ H' D = some (.lst (((xs.take i).filter b).map f))) ⟨Ext.upd hD, upd_same⟩ (fun i H' _ pv => SqT.of (pv.1 _ _ hx)) (fun i x H' hi pv => turn D hD i x H' hi pv) (fun H' pv => fin D hD H' pv)⟩
end
theorem filter_all {α : Type} (l : List α) : l.filter (fun _ => true) = l := List.filter_eq_self.mpr fun _ _ => rfl
end L2

set_option Elab.async false
set_option maxRecDepth 100000
set_option maxHeartbeats 4000000
/-! enumerate over a list or a tuple -/
namespace PySem
open Sem (wp)
/-- the maker of enumerate, handed one thing whose iterator is told -/
theorem en1_meets {v : Value} {ob : Obj} {HP : Heap → Prop} (BG : Begins v ob HP) :
    Meets (Builtin.«enumerate.__new__» ⟨[.type "enumerate", v], []⟩) (fun _ RR sh => HP sh.heap ∧
      RR (.ok (.ret (.ref (sh.heap.push ob).objs.size)))
        { sh with heap := (sh.heap.push ob).push { cls := .type "enumerate", data := .fields #[.none, .bool false, .ref sh.heap.objs.size, rawInt 0, .none, .none] } }) :=
  .of_wp fun pr ww AA RR sh hh => by
    obtain ⟨hp, gg, dd, tk, os⟩ := sh
    obtain ⟨hh1, hh⟩ := hh
    have sub1 := sub_enumerate
    have begin1 : ∀ {A1 : Around} {E1 Q1 : Value → Shared → Prop}, Q1 (.ref hp.objs.size) ⟨hp.push ob, gg, dd, tk, os⟩ →
        wpAny (model pr ww) A1 (pyIter v) Q1 E1 ⟨hp, gg, dd, tk, os⟩ :=
      fun qq => BG.iter pr ww _ _ ⟨hp, gg, dd, tk, os⟩ _ hh1 qq
    wp_walk using begin1
    refine wpAny_stack_any fun sta => wpAny_pure ?_
    split
    · rename_i cc _ _ _ _ _
      cases (cc == Value.type "enumerate")
      all_goals
        wp_walk using begin1
        exact ⟨_, rfl, hh⟩
    · wp_walk using begin1
      exact ⟨_, rfl, hh⟩
section
variable {pr : Program} {ww : World} {AA : Around} {EE : Value → Shared → Prop} {sh : Shared}
theorem en1_call {v : Value} {ob : Obj} {HP : Heap → Prop} {QQ : Value → Shared → Prop} (BG : Begins v ob HP) (hh : HP sh.heap)
    (kk : ∀ h1, IsEnum h1 (sh.heap.objs.size + 1) sh.heap.objs.size 0 .none → h1.get? sh.heap.objs.size = some ob →
      (∀ x y, sh.heap.get? x = some y → h1.get? x = some y) → QQ (.ref (sh.heap.objs.size + 1)) { sh with heap := h1 }) :
    wpAny (model pr ww) AA (call (.type "enumerate") [v]) QQ EE sh := by
  refine callType_new F.called_enumerate (by decide) (F.typeCall_enumerate_1 _) (F.newCall_enumerate_1 _) (fun oo => F.args_object_init_2 oo _) F.entry_enumerate_new (en1_meets BG) ⟨hh, ?_⟩
  have sz : (sh.heap.push ob).objs.size = sh.heap.objs.size + 1 := Heap.size_push ..
  show _ ∧ _
  rw [sz]
  have en : IsEnum ((sh.heap.push ob).push { cls := .type "enumerate", data := .fields #[.none, .bool false, .ref sh.heap.objs.size, rawInt 0, .none, .none] })
      (sh.heap.objs.size + 1) sh.heap.objs.size 0 .none := by
    have qq := Heap.get?_push_size (sh.heap.push ob) (o := { cls := .type "enumerate", data := .fields #[.none, .bool false, .ref sh.heap.objs.size, rawInt 0, .none, .none] }) rfl
    rw [sz] at qq
    exact qq
  exact ⟨⟨_, en, rfl⟩, kk _ en (Heap.get?_push_of_some _ (Heap.get?_push_size _ BG.free)) fun x y hx => Heap.get?_push_of_some _ (Heap.get?_push_of_some _ hx)⟩
end
end PySem
namespace L2
open PySem PySem.Spec PyProof.Rows
/-- the tuple at a, each item in a new pair with its place -/
def Itet (K : PySem.W.Frag) (a : Addr) : It :=
  ⟨fun i H => ∃ xs : List V, SqT K H a xs ∧ i < xs.length,
    fun i H v H' => ∃ T x, v = .ref T ∧ H T = none ∧ H' = upd H T (.tup [.int (i : Nat), x]) ∧ ∀ xs, SqT K H a xs → xs[i]? = some x,
    fun i H => ∃ xs : List V, SqT K H a xs ∧ xs.length = i⟩
theorem turn_enT {P : Program} {w : World} {K : PySem.W.Frag} {elts : List Expr} {kk : Nat} {tpos : Pos} (a e it : Addr) (hea : e ≠ a) (hia : a ≠ it) :
    Turn P w K (.Tuple elts kk tpos) (Itet K a) [e, it] e (fun i h => (∃ old, IsEnum h e it ((i : Nat) : Int) old) ∧ h.IsTupleIter it a i ∧ e ≠ it) where
  mem := List.mem_cons_self
  obj := fun i h st b hb => by
    obtain ⟨⟨old, he⟩, ⟨o, ho, _, hd⟩, _⟩ := st
    rcases List.mem_cons.mp hb with z | z
    · subst z
      exact ⟨_, he, fun v q => nomatch q⟩
    · have z' := List.mem_singleton.mp z
      subst z'
      exact ⟨o, ho, fun v q => by rw [hd] at q; cases q⟩
  keep := fun i h h' st k => by
    obtain ⟨⟨old, he⟩, hi, hne⟩ := st
    exact ⟨⟨old, k e List.mem_cons_self _ he⟩, hi.at fun o q => k it (List.mem_cons_of_mem _ (List.mem_singleton.mpr rfl)) o q, hne⟩
  item := by
    intro X hP hw hK hc i pins s σ H E I hf st hg
    subst hP hw hK
    obtain ⟨⟨old, he⟩, hit, hne⟩ := st
    obtain ⟨xs, hq, hx⟩ := hg
    obtain ⟨its, rv, p, hz⟩ := I.tuple hq
    have hl := rv.length
    have hel : e < s.heap.objs.size := Heap.lt_size he
    have hil : it < s.heap.objs.size := by
      obtain ⟨_, q, _⟩ := hit
      exact Heap.lt_size q
    have D := Draws.tuple (prog := X.prog) (w := X.w) (A := X.A.in1) (show X.A.in1.handled = none from I.ok.hd hc) it a hia its.toArray
    refine wpAny_pyNext_enum_itemC D he (i := i) ⟨hit, p⟩ (by simp; omega) hne (by simp [hne, hea]) fun u h' tk hP ho hst' hT hsz hk => ?_
    have hu : its[i]? = some u := by simpa using hP
    obtain ⟨x, hxx⟩ : ∃ x, xs[i]? = some x := ⟨_, List.getElem?_eq_getElem hx⟩
    obtain ⟨u', hu', ru'⟩ := rv.get hxx
    have eu : u' = u := Option.some.inj (hu'.symm.trans hu)
    subst eu
    refine ⟨_, rfl, wpAny_letOwnedTupleGo_enum (s := { s with heap := h', toks := tk + 1 }) ho fun h2 he2 sb => ?_⟩
    have hT2 : h2.get? s.heap.objs.size = some { cls := .type "tuple", data := .seq #[.int i tk, u'] } := (sb.2 _ (Nat.ne_of_gt hel)).trans hT
    have new : ObjOk X.prog X.w (upd H s.heap.objs.size (.tup [.int (i : Nat), x])) h2 s.heap.objs.size (.tup [.int (i : Nat), x]) := by
      refine ⟨?_, [.int i tk, u'], .cons ⟨_, rfl⟩ (.cons ru' .nil), ⟨_, hT2, rfl, _, rfl⟩⟩
      show 2 ≤ sizeLine
      decide
    have I1 : Inv X pins σ (upd H s.heap.objs.size (.tup [.int (i : Nat), x])) { s with heap := h2, toks := tk + 1 } := by
      refine I.turnedNew (ch := [e, it]) (fun b ob hb q => ?_) hf (Nat.le_refl _) new
      have b1 : b ≠ e := fun z => hb (by simp [z])
      have b2 : b ≠ it := fun z => hb (by simp [z])
      exact (sb.2 b b1).trans (hk b ob b1 b2 q)
    refine ⟨.ref s.heap.objs.size, _, I1, rfl, ⟨_, x, rfl, I.hok.fresh (Nat.le_refl _), rfl, fun ys hy => ?_⟩, ⟨⟨u', ?_⟩, hst'.1.at fun o q => (sb.2 it (Ne.symm hne)).trans q, hne⟩, fun b hb => ?_⟩
    · obtain ⟨its2, rv2, p2, _⟩ := I.tuple hy
      rw [I.tuple_inj hy hq]
      exact hxx
    · have e1 : ((i + 1 : Nat) : Int) = (i : Int) + 1 := rfl
      rw [e1]
      exact he2
    · have hb' : b < s.heap.objs.size := by
        rcases List.mem_cons.mp hb with z | z
        · rw [z]
          exact hel
        · rw [List.mem_singleton.mp z]
          exact hil
      rw [upd_ne (Nat.ne_of_lt hb')]
      exact (hf b hb).1
  done := by
    intro X hP hw hK hc i pins s σ H E I hf st hg
    subst hP hw hK
    obtain ⟨⟨old, he⟩, hit, hne⟩ := st
    obtain ⟨xs, hq, hx⟩ := hg
    obtain ⟨its, rv, p, hz⟩ := I.tuple hq
    have hl := rv.length
    obtain ⟨f0, f1, f2, f3, f4, f5⟩ := hf it (List.mem_cons_of_mem _ (List.mem_singleton.mpr rfl))
    have D := Draws.tuple (prog := X.prog) (w := X.w) (A := X.A.in1) (show X.A.in1.handled = none from I.ok.hd hc) it a hia its.toArray
    have ei : i = its.toArray.size := by simp; omega
    refine wpAny_pyNext_enum_endD D he (by rw [← ei]; exact ⟨hit, p⟩) fun h' eb => ⟨rfl, ?_⟩
    exact I.turned (t' := s.toks) (fun b o hb q => eb b o hb q) f0 f1 f3 f4 f5
  self := fun A i s Q E st h => by
    obtain ⟨⟨_, he⟩, _⟩ := st
    exact wpAny_pyIter_enum he h
/-- a list or a tuple is walked with the places -/
def iEnSq (K : PySem.W.Frag) (ta : TA) : TI := fun σ H R => ta σ H fun vs H1 => ∃ a, vs = [.ref a] ∧ (((∃ xs, SqL K H1 a xs) ∧ R (Ite K a) H1) ∨ ((∃ xs, SqT K H1 a xs) ∧ R (Itet K a) H1))
theorem pi_enSq {X : Cx} {e : Expr} {ta : TA} {p pos tpos : Pos} {elts : List Expr} {kk : Nat} (hg : Gl X "enumerate") (hm : X.mg "enumerate" = none) (ha : PA X [e] ta) (hs : starEach [e] X.env = [(false, eval e X.env)] := by rfl) :
    PI X (.Tuple elts kk tpos) (.Call (.Name "enumerate" p) [e] [] pos) (iEnSq X.K ta) := by
  refine ⟨fun pins s σ H R I h => ?_⟩
  refine Call_ (ld_blt I hg hm boot_enumerate (PyProof.Rows.callWith_type1 (thn (ha.run pos pins s σ H _ I h) fun us s1 ⟨vs, H1, I1, r1, q1⟩ => ?_) hs rfl))
  obtain ⟨a, ex, q1⟩ := q1
  subst ex
  obtain rfl := Vals.ref1 r1
  have two : ∀ b, b ∈ [s1.heap.objs.size + 1, s1.heap.objs.size] → s1.heap.objs.size ≤ b := fun b hb => by
    rcases List.mem_cons.mp hb with z | z
    · rw [z]
      exact Nat.le_add_right _ _
    · rw [List.mem_singleton.mp z]
      exact Nat.le_refl _
  rcases q1 with ⟨⟨xs, hq⟩, q⟩ | ⟨⟨xs, hq⟩, q⟩
  · obtain ⟨its, rv, p', hz⟩ := I1.list hq
    refine en1_call (begins_list a its.toArray) p'.isList fun h' he hit hk => wpAny_pyIter_enum he ?_
    have I2 : Inv X pins σ H1 { s1 with heap := h' } := I1.kept (t' := s1.toks) hk
    refine ⟨s1.heap.objs.size + 1, [s1.heap.objs.size + 1, s1.heap.objs.size], _, _, H1, rfl, I2, turn_enum a (s1.heap.objs.size + 1) s1.heap.objs.size, ⟨⟨.none, he⟩, ⟨_, hit, rfl, rfl⟩, Nat.succ_ne_self _⟩, fun b hb => ?_, q⟩
    exact I1.fpOk (two b hb) (I1.hok.fresh (two b hb))
  · obtain ⟨its, rv, p', hz⟩ := I1.tuple hq
    have hlt : a < s1.heap.objs.size := by
      obtain ⟨o, ho, _⟩ := (show s1.heap.IsTuple a its.toArray from p')
      exact Heap.lt_size ho
    refine en1_call (begins_tuple a its.toArray) p' fun h' he hit hk => wpAny_pyIter_enum he ?_
    have I2 : Inv X pins σ H1 { s1 with heap := h' } := I1.kept (t' := s1.toks) hk
    refine ⟨s1.heap.objs.size + 1, [s1.heap.objs.size + 1, s1.heap.objs.size], _, _, H1, rfl, I2, turn_enT a (s1.heap.objs.size + 1) s1.heap.objs.size (Nat.ne_of_gt (Nat.lt_succ_of_lt hlt)) (Nat.ne_of_lt hlt), ⟨⟨.none, he⟩, ⟨_, hit, rfl, rfl⟩, Nat.succ_ne_self _⟩, fun b hb => ?_, q⟩
    exact I1.fpOk (two b hb) (I1.hok.fresh (two b hb))
section
variable {K : PySem.W.Frag} {a : Addr} {xs : List V}
theorem walk_enT : Walk (Itet K a) xs.length (fun H => SqT K H a xs) (YPair (fun i => some (.int (i : Nat))) (fun i => xs[i]?)) := by
  refine ⟨fun i _ hi q => ⟨xs, q, hi⟩, fun _ q => ⟨xs, q, rfl⟩, fun i H v H' _ q y => ?_⟩
  obtain ⟨T, x, e1, e2, e3, e4⟩ := y
  exact ⟨T, .int (i : Nat), x, e1, e2, e3, rfl, e4 xs q⟩
/-- the turns of an end: what goes on is N -/
def turnsOf (g : TG) (tb : TS) (D : Ends) (σ : St) (J : It) (H : Hp) : Prop := ∃ W : Nat → Nat → St → Hp → Prop, (∃ m, W 0 m σ H) ∧ ∀ i m σ H, W i m σ H →
  (J.stop i H ∧ D.nx σ H) ∨ (J.go i H ∧ ∃ N : St → Hp → Prop, (∀ σ' H', N σ' H' → ∃ m', m' < m ∧ W (i + 1) m' σ' H') ∧ ∀ x H', J.yld i H x H' → g x σ H' fun σ2 H2 => tb { D with nx := N, ct := N, bk := D.nx } σ2 H2)
theorem for_enSq {g : TG} {tb : TS} {D : Ends} {σ : St} {H : Hp} (hx : SqL K H a xs ∨ SqT K H a xs) (Pv : Nat → St → Hp → Prop) (h0 : Pv 0 σ H) (hE : ∀ i σ' H', Pv i σ' H' → Ext H H')
    (hs : ∀ i x σ' H' T, xs[i]? = some x → Pv i σ' H' → H' T = none → g (.ref T) σ' (upd H' T (.tup [.int (i : Nat), x])) fun σ2 H2 => tb { D with nx := Pv (i + 1), ct := Pv (i + 1), bk := D.nx } σ2 H2) (hd : ∀ σ' H', Pv xs.length σ' H' → D.nx σ' H') :
    ((∃ xs, SqL K H a xs) ∧ turnsOf g tb D σ (Ite K a) H) ∨ ((∃ xs, SqT K H a xs) ∧ turnsOf g tb D σ (Itet K a) H) := by
  have step : ∀ i x σ' H' H'', i < xs.length → Pv i σ' H' → YPair (fun i => some (V.int (i : Nat))) (fun i => xs[i]?) i H' x H'' → g x σ' H'' fun σ2 H2 => tb { D with nx := Pv (i + 1), ct := Pv (i + 1), bk := D.nx } σ2 H2 := by
    rintro i v σ' H' H'' hi pv ⟨T, x, y, rfl, hT, rfl, hx', hy⟩
    cases hx'
    exact hs i y σ' H' T hy pv hT
  rcases hx with hx | hx
  · exact .inl ⟨⟨xs, hx⟩, for_it (walk_enum (xs := xs)) Pv h0 (fun i σ' H' _ pv => hx.ext (hE i σ' H' pv)) step hd⟩
  · exact .inr ⟨⟨xs, hx⟩, for_it (walk_enT (xs := xs)) Pv h0 (fun i σ' H' _ pv => hx.ext (hE i σ' H' pv)) step hd⟩
end
end L2

set_option Elab.async false
set_option maxRecDepth 100000
set_option maxHeartbeats 4000000
/-! values told by the data that they hold -/
namespace L2
open PySem PySem.Spec PyProof.Rows
/-- the type's name -/
def tnD : PyData → String
  | .none => "NoneType" | .bool _ => "bool" | .int _ => "int" | .str _ => "str" | .list _ => "list" | .tuple _ => "tuple" | .dict _ => "dict"
def isIntD : PyData → Bool | .int _ => true | .bool _ => true | _ => false
def isBoolD : PyData → Bool | .bool _ => true | _ => false
def isTupD : PyData → Bool | .tuple _ => true | _ => false
def isListD : PyData → Bool | .list _ => true | _ => false
def isStrD : PyData → Bool | .str _ => true | _ => false
def isSeqD : PyData → Bool | .list _ => true | .tuple _ => true | _ => false
def isNoneD : PyData → Bool | .none => true | _ => false
/-- the int that it is, no truth -/
def betD (d : PyData) (a b : Int) : Bool := match d with
  | .int n => decide (a ≤ n) && decide (n ≤ b)
  | _ => false
def lenD : PyData → Nat | .list ds => ds.length | .tuple ds => ds.length | _ => 0
section
variable {K : PySem.W.Frag} {H H' : Hp} {v : V} {d : PyData}
theorem dp_ty (h : Dp K H v d) : TyX K H v (.type (tnD d)) := by
  cases h with
  | non => exact .base .non
  | bl b => exact .base (.bl b)
  | int i => exact .base (.int i)
  | str s => exact .base (.str s)
  | lst hs _ =>
    rcases hs with (h | ⟨o, h⟩) | ⟨o, its, n, e, c, _⟩
    · exact .base (.lst h)
    · exact .base (.frz h)
    · exact .kList e c
  | tup hs _ =>
    rcases hs with (h | ⟨o, h⟩) | ⟨o, its, n, e, c, _⟩
    · exact .base (.tup h)
    · exact .fTuple h
    · exact .kTuple e c
theorem kd_int : PySem.W.kitOne K (.type (tnD d)) (.type "int") = some (isIntD d) := by cases d <;> exact kit_ty (by dsimp only [tnD, isIntD]; decide +kernel)
theorem kd_bool : PySem.W.kitOne K (.type (tnD d)) (.type "bool") = some (isBoolD d) := by cases d <;> exact kit_ty (by dsimp only [tnD, isBoolD]; decide +kernel)
theorem kd_tup : PySem.W.kitOne K (.type (tnD d)) (.type "tuple") = some (isTupD d) := by cases d <;> exact kit_ty (by dsimp only [tnD, isTupD]; decide +kernel)
theorem kd_list : PySem.W.kitOne K (.type (tnD d)) (.type "list") = some (isListD d) := by cases d <;> exact kit_ty (by dsimp only [tnD, isListD]; decide +kernel)
theorem kd_seq : PySem.W.kitAny K (.type (tnD d)) [.type "list", .type "tuple"] = some (isSeqD d) := by
  unfold PySem.W.kitAny
  rw [kd_list]
  unfold PySem.W.kitAny
  rw [kd_tup]
  cases d <;> rfl
theorem kd_find : (fastFind? (tnD d)).isSome = true := by cases d <;> (dsimp only [tnD]; decide +kernel)
mutual
theorem dp_ext (e : Ext H H') : ∀ (d : PyData) (v : V), Dp K H v d → Dp K H' v d
  | .none, _, h => by cases h; exact .non
  | .bool _, _, h => by cases h; exact .bl _
  | .int _, _, h => by cases h; exact .int _
  | .str _, _, h => by cases h; exact .str _
  | .list ds, _, h => by
    cases h with
    | lst hs ha => exact .lst (hs.ext e) (dps_ext e ds _ ha)
  | .tuple ds, _, h => by
    cases h with
    | tup hs ha => exact .tup (hs.ext e) (dps_ext e ds _ ha)
  | .dict _, _, h => by cases h
theorem dps_ext (e : Ext H H') : ∀ (ds : List PyData) (vs : List V), DpAll K H vs ds → DpAll K H' vs ds
  | [], _, h => by cases h; exact .nil
  | d :: ds, _, h => by
    cases h with
    | cons h1 h2 => exact .cons (dp_ext e d _ h1) (dps_ext e ds _ h2)
end
theorem dps_len : ∀ {vs : List V} {ds : List PyData}, DpAll K H vs ds → vs.length = ds.length
  | [], _, h => by cases h; rfl
  | v :: vs, _, h => by
    cases h with
    | cons _ h2 => exact congrArg Nat.succ (dps_len h2)
theorem dps_get : ∀ {vs : List V} {ds : List PyData} {i : Nat} {v : V}, DpAll K H vs ds → vs[i]? = some v → ∃ d, ds[i]? = some d ∧ Dp K H v d
  | [], _, _, _, _, e => by cases e
  | v :: vs, _, i, _, h, e => by
    cases h with
    | @cons _ _ d ds h1 h2 =>
      cases i with
      | zero => cases e; exact ⟨d, rfl, h1⟩
      | succ i => exact dps_get (i := i) h2 e
theorem bet_int {n a b : Int} : betD (.int n) a b = (decide (a ≤ n) && decide (n ≤ b)) := rfl
theorem bet_not {a b : Int} (h : (isIntD d && !isBoolD d) = false) : betD d a b = false := by cases d <;> first | rfl | cases h
theorem bet_yes {a b : Int} (h : betD d a b = true) : ∃ n, d = .int n ∧ a ≤ n ∧ n ≤ b := by
  cases d <;> first | (rw [bet_int, Bool.and_eq_true, decide_eq_true_eq, decide_eq_true_eq] at h; exact ⟨_, rfl, h.1, h.2⟩) | cases h
theorem int_yes (h : (isIntD d && !isBoolD d) = true) : ∃ n, d = .int n := by cases d <;> first | exact ⟨_, rfl⟩ | cases h
theorem dp_int {n : Int} (h : Dp K H v (.int n)) : v = .int n := by cases h; rfl
theorem dp_seq (h : Dp K H v d) (hs : isSeqD d = true) : ∃ (a : Addr) (xs : List V) (ds : List PyData), v = .ref a ∧ (SqL K H a xs ∨ SqT K H a xs) ∧ DpAll K H xs ds ∧ (d = .list ds ∨ d = .tuple ds) := by
  cases h with
  | lst h ha => exact ⟨_, _, _, rfl, .inl h, ha, .inl rfl⟩
  | tup h ha => exact ⟨_, _, _, rfl, .inr h, ha, .inr rfl⟩
  | _ => cases hs
theorem dp_tup (h : Dp K H v d) (hs : isTupD d = true) : ∃ (a : Addr) (xs : List V) (ds : List PyData), v = .ref a ∧ SqT K H a xs ∧ DpAll K H xs ds ∧ d = .tuple ds := by
  cases h with
  | tup h ha => exact ⟨_, _, _, rfl, h, ha, rfl⟩
  | _ => cases hs
end
/-! ### own methods, called -/
section
variable {X : Cx} {CX : CXT} {m : Str} {k : Nat} {ps : List Str} {sp : Sp} {e o : Expr} {es : List Expr} {t : TA} {ta : TE} {pos apos : Pos} {C : Addr}
theorem pe_ownM0 {pl : Sem Bool} (O : OwnM X.prog X.w X.K X.mg X.base CX C m k ps sp) (he : PE X o ta) (c : Cls X.K C) (hr : Room k X.A) (hx : Passes CX X E0)
    (ht : eval (.Call (.Attribute o m apos) [] [] pos) X.env = (do
      let ov ← eval o X.env
      standAt apos.atName
      let (f, first) ← holding [ov] (getMethod ov m pl)
      callWith pos f first (backTo pos (starEach [] X.env)) (backToKw pos (keywordEach [] X.env))) := by rfl) :
    PE X (.Call (.Attribute o m apos) [] [] pos) (tMeth C m sp [] E0 ta tNil) := by
  obtain ⟨f, fd, F, M, _, hb⟩ := O.ex
  exact pe_meth0 he c M F hr hb .nil hx ht
theorem pe_ownM {pl : Sem Bool} (O : OwnM X.prog X.w X.K X.mg X.base CX C m k ps sp) (he : PE X o ta) (c : Cls X.K C) (hr : Room k X.A) (hx : Passes CX X E0) (ha : PA X (e :: es) t)
    (hst : starEach (e :: es) X.env = (false, eval e X.env) :: starEach es X.env := by rfl) (hpl : (backTo pos (starEach es X.env)).any (·.1) = false := by rfl)
    (ht : eval (.Call (.Attribute o m apos) (e :: es) [] pos) X.env = (do
      let ov ← eval o X.env
      standAt apos.atName
      let (f, first) ← holding [ov] (getMethod ov m pl)
      callWith pos f first (backTo pos (starEach (e :: es) X.env)) (backToKw pos (keywordEach [] X.env))) := by rfl) :
    PE X (.Call (.Attribute o m apos) (e :: es) [] pos) (tMeth C m sp [] E0 ta t) := by
  obtain ⟨f, fd, F, M, _, hb⟩ := O.ex
  exact pe_meth he c M F hr hb .nil hx ha hst hpl ht
end
end L2

set_option Elab.async false
set_option maxRecDepth 100000
set_option maxHeartbeats 4000000
/-! defs that are handed the error that the suite holds; classes made with defaults -/
namespace L2
open PySem PySem.Spec PyProof.Rows
section
variable {X : Cx}
/-- isinstance(e, c), e the held error, anywhere that it is pinned -/
theorem call_isEP {a D : Addr} {cls : Value} {d : Option Addr} {oe : Obj} (hpn : (a, oe) ∈ X.pn) (C : ExcC X.K D) (hz : Zc cls d oe) (hf : ∃ vs, oe.data = .fields vs) : CallR X (.builtin "isinstance") (rIsED X.K D a cls d) := by
  intro pins s σ H xs us Q I r h
  obtain ⟨ec0, hdd, c, cv, b, rfl, hcv, e, q⟩ := h
  subst ec0
  cases r with
  | cons rx rr =>
    cases rr with
    | cons rt rr =>
      cases rr
      cases rx
      have ec := hcv _ rt
      subst ec
      obtain ⟨hget, _⟩ := I.pin (a, oe) (List.mem_append.mpr (.inl hpn))
      obtain ⟨vs, hv⟩ := hf
      have J : ∃ od, PySem.W.InstAt s.heap a oe D od := by
        obtain ⟨oc, od, oda, osl⟩ := oe
        obtain ⟨h1, h2⟩ := hz
        dsimp only at h1 h2 hv
        subst h1 h2 hv
        cases od with
        | none => exact ⟨none, hget, rfl, rfl, trivial⟩
        | some dd =>
          obtain ⟨fs, hfs⟩ := hdd dd rfl
          obtain ⟨mA, hns, _⟩ := (show ObjOk X.prog X.w H s.heap dd (.xd fs) from I.hok dd _ hfs)
          obtain ⟨od, ho, _⟩ := lookIn_ns hns
          exact ⟨some od, hget, rfl, rfl, ho⟩
      exact PySem.W.kia_one (PySem.W.kitx_excD C) I.kIn J e (fun z => nomatch z) fun tk => ⟨.bl b, H, I.kept (t' := tk) fun _ _ z => z, rfl, q⟩
/-- e.f of it -/
theorem pe_xfP {a C : Addr} {oe : Obj} {cls : Value} {d : Option Addr} {e : Expr} {te : TE} {pos : Pos} {n : Str} (hpn : (a, oe) ∈ X.pn) (T : XfC X.K C) (hno : PySem.W.findIn X.K (.ref C) n = some none)
    (hz : Zc cls d oe) (hf : ∃ vs, oe.data = .fields vs) (he : PE X e te) (hb : attributeBase e n X.env (eval e X.env) = eval e X.env := by rfl) :
    PE X (.Attribute e n pos) (tXf a cls d C n te) := by
  refine ⟨fun pins s σ H Q I h => attr_of hb (thn (he.run pins s σ H _ I h) fun u s1 hh => ?_)⟩
  obtain ⟨x, H1, I1, rx, ex, ec, dd, fs, v, ed, ea, l, q⟩ := hh
  subst ex ec ed
  obtain rfl : u = Value.ref a := rx
  obtain ⟨hget, _⟩ := I1.pin (a, oe) (List.mem_append.mpr (.inl hpn))
  obtain ⟨vs, hv⟩ := hf
  obtain ⟨mA, hns, hr⟩ := (show ObjOk X.prog X.w H1 s1.heap dd (.xd fs) from I1.hok dd _ ea)
  obtain ⟨od, ho, hl⟩ := lookIn_ns hns
  obtain ⟨uu, hu, ru⟩ := RelO.some_of (v := v) (o := mA n) (by rw [← l]; exact hr n)
  have ncls : PySem.W.notCls oe = true := by
    unfold PySem.W.notCls
    rw [hv] <;> rfl
  have J : PySem.W.InstAt s1.heap a oe C (some od) := ⟨hget, hz.1, ncls, by rw [hz.2]; exact ho⟩
  have fo := PySem.W.findObj_own T.hdC hno (od := od) rfl (by rw [hl, hu])
  exact HandSPX.exc_get I1.kIn J T.ga T.gg T.exC fo (handed_of ru) ⟨v, H1, I1.tok _, ru, q⟩
end
end L2
namespace L2H
open PySem PySem.Spec PyProof.Rows L2 HotX
/-- such a def: its promise speaks of the held error, too -/
structure FnE (P : Program) (w : World) (K : PySem.W.Frag) (mg : Str → Option Value) (base : Heap) (CX : CXT) (k : Nat) (f : Addr) (fd : FuncData) (ps : List Str) (sp : Addr × Obj → Sp) : Prop where
  len : ∀ p vs H Q E, sp p vs H Q E → vs.length = ps.length
  run : ∀ (p : Addr × Obj) (AA : Around) (outer : List Env) (sh : Shared) (H : Hp) (args : Args) (us : List Value) (vs : List V) (Q : VK) (E : XK), RoomH k AA → PinOk outer H sh p → Env0 P w K mg base AA outer sh H →
    BindsTo sh fd args (ps.zip us) → Vals vs us → sp p vs H Q E → codeAny (model P w) AA (.call (.ref f) args) (CR CX outer P w H sh Q E) sh
section
variable {CX : CXT} {P : Program} {w : World} {K : PySem.W.Frag} {mg : Str → Option Value} {base : Heap} {k : Nat} {f : Addr} {fd : FuncData} {x qual : Str} {st : Stmt} {N ps : List Str} {sp : Addr × Obj → Sp}
theorem fnE_of (F : Fun K x qual st f fd) (S : FnScope N ps (defScope st)) (len : ∀ p vs H Q E, sp p vs H Q E → vs.length = ps.length)
    (hbody : ∀ (p : Addr × Obj) (cdv : Value) (AA : Around) (outer : List Env) (sh : Shared) (H : Hp) (vs : List V) (Q : VK) (E : XK), RoomH k (AA.deeper (envOfC qual (defScope st) sh.heap.objs.size f cdv)) → sp p vs H Q E →
      ∃ t, PSs (cxH CX P w K mg base N qual (defScope st) f cdv AA outer sh H E p) (defBody st) t ∧ t { nx := fun _ H' => Q .non H', rt := Q } (L2.start N vs) H) : FnE P w K mg base CX (k + 1) f fd ps sp := by
  obtain ⟨oc, od, kV, doc, pm, an, cdv, ct, osl, rfl, lk, hcd⟩ := F.ex
  refine ⟨len, fun p AA outer sh H args us vs Q E hr hpin e0 hb r hsp => ?_⟩
  have hl := len _ _ _ _ _ hsp
  have KX : K.In sh.heap := e0.mod.kin.keeps fun b o e => (e0.bs b o e).1
  have lim : sh.heap.NoLimit := e0.mod.nolimit.keeps fun b o e => (e0.bs b o e).1
  have binds : ∀ y ∈ ps.zip us, (defScope st).names.lookup y.1 = some .local ∨ ((defScope st).names.lookup y.1 = some .cell ∧ ((cellsFrom (sh.heap.objs.size + 1) (defScope st).names []).lookup y.1).isSome = true) := by
    rintro ⟨n, v⟩ hy
    rcases S.par n (List.of_mem_zip hy).1 with q | q
    · exact .inl q
    · exact .inr ⟨q, PySem.W.cellsFrom_some _ _ _ (.inl q)⟩
  refine codeAny_call_function hr.depth (KX _ _ lk) rfl S.co S.gen rfl (PySem.W.codeRec_of KX hcd) (hb _ _ _ _ ?_)
  refine wpAny_newFunctionEnv_cells S.kind binds fun env he s1 xx => ?_
  subst he
  refine ⟨lim.keeps xx.toInCall.keep, codeAny_func ?_⟩
  obtain ⟨t, ht, hq⟩ := hbody p cdv AA outer sh H vs Q E (hr.deeper _) hsp
  have I := inv_startH (CX := CX) (E := E) S hpin e0 hl r xx
  refine wpAny_mono (ht.run [] s1 (L2.start N vs) H _ I hq) (fun fl s' hs => ?_) fun _ _ hs => hs
  cases fl with
  | ret u =>
    obtain ⟨v, σ', H', J, rv, q⟩ := hs
    exact ⟨v, H', J.os, J.bare, J.base, J.hok, rv, q⟩
  | next =>
    obtain ⟨σ', H', J, q⟩ := hs
    exact ⟨V.non, H', J.os, J.bare, J.base, J.hok, rfl, q⟩
  | brk =>
    obtain ⟨_, _, _, q⟩ := hs
    exact q.elim
  | cont =>
    obtain ⟨_, _, _, q⟩ := hs
    exact q.elim
end
section
variable {X : Cx} {CX : CXT} {k : Nat} {f : Addr} {fd : FuncData} {ps : List Str} {sp : Addr × Obj → Sp} {x : Str} {q pos : Pos} {e : Expr} {es : List Expr} {t : TA} {p : Addr × Obj}
/-- f(e, ..) in the suite that holds p -/
theorem pe_callE (F : FnE X.prog X.w X.K X.mg X.base CX k f fd ps sp) (hr : RoomH k X.A) (hp : p ∈ X.pn) (hg : Gl X x) (hm : X.mg x = some (.ref f)) (hk : PySem.W.keepIn X.K (.ref f) = true) (hb : Binds X.K fd ps []) (hx : Passes CX X E0)
    (ha : PA X (e :: es) t) (hdb : (x == ("__debug__" : Str)) = false := by decide) (he : starEach (e :: es) X.env = (false, eval e X.env) :: starEach es X.env := by rfl) (hpl : (backTo pos (starEach es X.env)).any (·.1) = false := by rfl) :
    PE X (.Call (.Name x q) (e :: es) [] pos) (tCall (sp p) [] E0 t) := by
  refine ⟨fun pins s σ H Q I h => wpAny_Call_Name_kw (ld_glob I hg hm ?_ hdb)⟩
  refine PySem.W.callWith_K (h₀ := X.base) I.ok.mod.kin hk (thn (ha.run pos pins s σ H _ I h) fun us s1 ⟨vs, H1, I1, r, hsp⟩ => ⟨I1.kIn, ?_⟩) he hpl
  have hsp : sp p vs H1 Q E0 := by
    have z : sp p (vs ++ []) H1 Q E0 := hsp
    rwa [List.append_nil] at z
  have hl : us.length = ps.length := by
    rw [← r.length]
    exact F.len _ _ _ _ _ hsp
  have bd := hb s1 us I1.kIn (by rw [List.append_nil]; exact hl)
  rw [List.append_nil] at bd
  have P1 := I1.pin p (List.mem_append.mpr (.inl hp))
  have hpin : PinOk X.stack H1 s1 p := ⟨P1.1, P1.2.1, fun hm => (List.mem_cons.mp (I1.stkSub p.1 hm)).elim P1.2.2.1 P1.2.2.2.1, P1.2.2.2.2⟩
  refine wpAny_call (codeAny_mono (F.run p X.A X.stack s1 H1 ⟨us, []⟩ us vs Q E0 hr hpin I1.env0 bd r hsp) fun rr s' hq => ?_)
  match rr, hq with
  | .error ee, hq => exact hx pins σ H1 s1 ee s' I1 hq
  | .ok (.ret u), hq => exact I1.after hq
  | .ok .next, hq => exact hq.elim
  | .ok .brk, hq => exact hq.elim
  | .ok .cont, hq => exact hq.elim
end
end L2H
namespace L2
open PySem PySem.Spec PyProof.Rows
/-- a class of the top whose __init__ has defaults, dvs those that fill up -/
structure OwnCD (P : Program) (w : World) (K : PySem.W.Frag) (mg : Str → Option Value) (base : Heap) (CX : CXT) (x : Str) (C : Addr) (k : Nat) (ps : List Str) (sp : Sp) (dvs : List V) : Prop where
  ex : ∃ (f : Addr) (fd : FuncData) (ds : List Value), FnOk P w K mg base CX k f fd ps sp ∧ Mk K C f ∧ mg x = some (.ref C) ∧ Binds K fd ps ds ∧ Vals dvs ds
section
variable {X : Cx} {CX : CXT} {x : Str} {k : Nat} {ps : List Str} {sp : Sp} {e : Expr} {es : List Expr} {t : TA} {p pos : Pos} {C : Addr} {dvs : List V}
theorem pe_newD (O : OwnCD X.prog X.w X.K X.mg X.base CX x C k ps sp dvs) (hr : Room (k + 1) X.A) (hx : Passes CX X E0) (ha : PA X (e :: es) t) (hg : Gl X x := by rfl) (hdb : (x == ("__debug__" : Str)) = false := by decide)
    (he : starEach (e :: es) X.env = (false, eval e X.env) :: starEach es X.env := by rfl) (hpl : (backTo pos (starEach es X.env)).any (·.1) = false := by rfl) : PE X (.Call (.Name x p) (e :: es) [] pos) (tMake C sp dvs E0 t) := by
  obtain ⟨f, fd, ds, F, M, hm, hb, hv⟩ := O.ex
  exact pe_make M F hr hg hm hb hv hx ha hdb he hpl
end
end L2

set_option Elab.async false
set_option maxRecDepth 100000
set_option maxHeartbeats 4000000
/-! a op b op c op d -/
namespace L2
open PySem PySem.Spec PyProof.Rows
def tCh3 (r r' r2 : R2) (ta tb tc td : TE) : TE := fun σ H Q => ta σ H fun x H1 => tb σ H1 fun y H2 => r x y H2 fun z H3 => ∃ k, z = .bl k ∧
  (if k = true then tc σ H3 fun u H4 => r' y u H4 fun z' H5 => ∃ k', z' = .bl k' ∧ (if k' = true then td σ H5 fun v H6 => r2 u v H6 Q else Q (.bl false) H5) else Q (.bl false) H3)
section
variable {X : Cx} {a b c d : Expr} {pos : Pos} {ta tb tc td : TE} {op op' op2 : CmpOp} {r r' r2 : R2}
theorem pe_chain3 (ho : OpR X (compareOp op) r) (ho' : OpR X (compareOp op') r') (ho2 : OpR X (compareOp op2) r2) (ha : PE X a ta) (hb : PE X b tb) (hc : PE X c tc) (hd : PE X d td)
    (hm : lastMarks [op, op', op2] [b, c, d] = false := by with_unfolding_all rfl) : PE X (.Compare a [op, op', op2] [b, c, d] pos) (tCh3 r r' r2 ta tb tc td) := by
  refine ⟨fun pins s σ H Q I h => ?_⟩
  refine Compare_chain (thn (ha.run pins s σ H _ I h) fun v s1 ⟨x, H1, I1, r1, q1⟩ => chain_link (thn (hb.run pins s1 σ H1 _ I1 q1) fun u s2 ⟨y, H2, I2, r2', q2⟩ =>
    thn (ho pins s2 σ H2 x y v u _ I2 r1 r2' q2) fun e s3 ⟨z, H3, I3, r3, k, ez, q3⟩ => ?_)) hm
  subst ez
  cases r3
  refine wpAny_truthy_bool ?_
  cases k with
  | false => exact ite_ff ⟨.bl false, H3, I3, rfl, q3⟩
  | true =>
    refine ite_tt (chain_link (thn (hc.run pins s3 σ H3 _ I3 q3) fun u2 s4 ⟨z4, H4, I4, r4, q4⟩ => thn (ho' pins s4 σ H4 y z4 u u2 _ I4 r2' r4 q4) fun e5 s5 ⟨z5, H5, I5, r5, k5, ez5, q5⟩ => ?_))
    subst ez5
    cases r5
    refine wpAny_truthy_bool ?_
    cases k5 with
    | false => exact ite_ff ⟨.bl false, H5, I5, rfl, q5⟩
    | true => exact ite_tt (chain_last (thn (hd.run pins s5 σ H5 _ I5 q5) fun u6 s6 ⟨z6, H6, I6, r6, q6⟩ => ho2 pins s6 σ H6 z4 z6 u2 u6 Q I6 r4 r6 q6))
theorem pt_chain3 (ho : OpR X (compareOp op) r) (ho' : OpR X (compareOp op') r') (ho2 : OpR X (compareOp op2) r2) (ha : PE X a ta) (hb : PE X b tb) (hc : PE X c tc) (hd : PE X d td)
    (hm : lastMarks [op, op', op2] [b, c, d] = false := by with_unfolding_all rfl) : PT X (.Compare a [op, op', op2] [b, c, d] pos) (tTest (tCh3 r r' r2 ta tb tc td)) := by
  refine ⟨fun pins s σ H Q I h => ?_⟩
  refine isTrue_chain (thn (ha.run pins s σ H _ I h) fun v s1 ⟨x, H1, I1, r1, q1⟩ => test_link (thn (hb.run pins s1 σ H1 _ I1 q1) fun u s2 ⟨y, H2, I2, r2', q2⟩ =>
    thn (ho pins s2 σ H2 x y v u _ I2 r1 r2' q2) fun e s3 ⟨z, H3, I3, r3, k, ez, q3⟩ => ?_)) hm
  subst ez
  cases r3
  refine wpAny_truthy_bool ?_
  cases k with
  | false =>
    obtain ⟨k', e', q'⟩ := q3
    cases e'
    exact ite_ff ⟨H3, I3, q'⟩
  | true =>
    refine ite_tt (test_link (thn (hc.run pins s3 σ H3 _ I3 q3) fun u2 s4 ⟨z4, H4, I4, r4, q4⟩ => thn (ho' pins s4 σ H4 y z4 u u2 _ I4 r2' r4 q4) fun e5 s5 ⟨z5, H5, I5, r5, k5, ez5, q5⟩ => ?_))
    subst ez5
    cases r5
    refine wpAny_truthy_bool ?_
    cases k5 with
    | false =>
      obtain ⟨k', e', q'⟩ := q5
      cases e'
      exact ite_ff ⟨H5, I5, q'⟩
    | true =>
      refine ite_tt (test_last (thn (hd.run pins s5 σ H5 _ I5 q5) fun u6 s6 ⟨z6, H6, I6, r6, q6⟩ => thn (ho2 pins s6 σ H6 z4 z6 u2 u6 _ I6 r4 r6 q6) fun e7 s7 ⟨z7, H7, I7, r7, k7, ez7, q7⟩ => ?_))
      subst ez7
      cases r7
      exact wpAny_truthy_bool ⟨H7, I7, q7⟩
end
end L2
namespace L2
open PySem PySem.Spec PyProof.Rows
def numV : V → Bool | .int _ => true | _ => false
section
variable {K : PySem.W.Frag} {σ : St} {H : Hp} {p : Addr} {xs : List V} {te : TE} {tt : TT} {j : Nat} {vs : List Nat} {Q : VK} {v : V} {d : PyData}
theorem num_dp (h : Dp K H v d) : (isIntD d && !isBoolD d) = numV v := by cases h <;> rfl
theorem non_dp (h : Dp K H v d) : decide (v = .non) = isNoneD d := by cases h <;> simp [isNoneD]
/-- [f(x) for x in xs if b(x)] over a list or a tuple wherever it stands, what is tested and made only adding to the heap -/
theorem lc_sqG {Qd : Addr → Hp → Prop} {f : V → V} {b : V → Bool} (hx : SqL K H p xs ∨ SqT K H p xs) (hz : xs.length < sizeLine) (hw : ∀ x, wipe ((wipe σ vs).set j (some x)) vs = wipe σ vs)
    (ht : ∀ x ∈ xs, ∀ H', Ext H H' → ∀ Q : Bool → Hp → Prop, (∀ H'', Ext H' H'' → Q (b x) H'') → tt ((wipe σ vs).set j (some x)) H' Q)
    (he : ∀ x ∈ xs, b x = true → ∀ H', Ext H H' → ∀ Q : VK, (∀ H'', Ext H' H'' → Q (f x) H'') → te ((wipe σ vs).set j (some x)) H' Q)
    (q : ∀ D H', H D = none → Ext H H' → H' D = some (.lst ((xs.filter b).map f)) → Qd D H') :
    ((∃ xs, SqL K H p xs) ∧ (fun J H1 => ∀ D, H1 D = none → ∃ W : Nat → Nat → Hp → Prop, (∃ m, W 0 m (upd H1 D (.lst []))) ∧ ∀ i m H, W i m H →
      (J.stop i H ∧ Qd D H) ∨ (J.go i H ∧ ∃ Nx : Hp → Prop, (∀ H', Nx H' → ∃ m', m' < m ∧ W (i + 1) m' H') ∧ ∀ x H', J.yld i H x H' → gName j x (wipe σ vs) H' fun σ2 H2 => wipe σ2 vs = wipe σ vs ∧ tt σ2 H2 fun b H3 =>
        if b = true then te σ2 H3 fun y H4 => ∃ acc, H4 D = some (.lst acc) ∧ acc.length < sizeLine ∧ Nx (upd H4 D (.lst (acc ++ [y]))) else Nx H3)) (Itl K p) H) ∨
    ((∃ xs, SqT K H p xs) ∧ (fun J H1 => ∀ D, H1 D = none → ∃ W : Nat → Nat → Hp → Prop, (∃ m, W 0 m (upd H1 D (.lst []))) ∧ ∀ i m H, W i m H →
      (J.stop i H ∧ Qd D H) ∨ (J.go i H ∧ ∃ Nx : Hp → Prop, (∀ H', Nx H' → ∃ m', m' < m ∧ W (i + 1) m' H') ∧ ∀ x H', J.yld i H x H' → gName j x (wipe σ vs) H' fun σ2 H2 => wipe σ2 vs = wipe σ vs ∧ tt σ2 H2 fun b H3 =>
        if b = true then te σ2 H3 fun y H4 => ∃ acc, H4 D = some (.lst acc) ∧ acc.length < sizeLine ∧ Nx (upd H4 D (.lst (acc ++ [y]))) else Nx H3)) (Itt K p) H) := by
  have turn : ∀ (D : Addr), H D = none → ∀ i x H', xs[i]? = some x → (Ext H H' ∧ H' D = some (.lst (((xs.take i).filter b).map f))) → gName j x (wipe σ vs) H' fun σ2 H2 => wipe σ2 vs = wipe σ vs ∧ tt σ2 H2 fun b' H3 =>
      if b' = true then te σ2 H3 fun y H4 => ∃ acc, H4 D = some (.lst acc) ∧ acc.length < sizeLine ∧ (Ext H (upd H4 D (.lst (acc ++ [y]))) ∧ upd H4 D (.lst (acc ++ [y])) D = some (.lst (((xs.take (i + 1)).filter b).map f))) else (Ext H H3 ∧ H3 D = some (.lst (((xs.take (i + 1)).filter b).map f))) := by
    intro D hD i x H' hi pv
    obtain ⟨e, hl⟩ := pv
    have hm : x ∈ xs := List.mem_of_getElem? hi
    refine ⟨hw x, ht x hm H' e _ fun H3 e3 => ?_⟩
    have hl3 : H3 D = some (.lst (((xs.take i).filter b).map f)) := e3 _ _ hl
    cases hb : b x with
    | true =>
      refine iteT (he x hm hb H3 (e.trans e3) _ fun H4 e4 => ⟨_, e4 _ _ hl3, ?_, ext_mut ((e.trans e3).trans e4) hD, ?_⟩)
      · rw [List.length_map]
        refine Nat.lt_of_le_of_lt (Nat.le_trans (List.length_filter_le _ _) ?_) hz
        exact List.length_take_le' _ _
      · rw [upd_same, take_snoc hi, List.filter_append, List.map_append]
        simp [hb]
    | false =>
      refine iteF ⟨e.trans e3, ?_⟩
      rw [hl3, take_snoc hi, List.filter_append, List.map_append]
      simp [hb]
  have fin : ∀ D, H D = none → ∀ H', (Ext H H' ∧ H' D = some (.lst (((xs.take xs.length).filter b).map f))) → Qd D H' := fun D hD H' pv => by
    rw [List.take_length] at pv
    exact q D H' hD pv.1 pv.2
  rcases hx with hx | hx
  · refine .inl ⟨⟨xs, hx⟩, fun D hD => lc_list (xs := xs) (fun i H' => Ext H H' ∧ H' D = some (.lst (((xs.take i).filter b).map f))) ⟨Ext.upd hD, upd_same⟩ (fun i H' _ pv => hx.ext pv.1) (fun i x H' hi pv => turn D hD i x H' hi pv) (fun H' pv => fin D hD H' pv)⟩
  · refine .inr ⟨⟨xs, hx⟩, fun D hD => lc_tup (xs := xs) (fun i H' => Ext H H' ∧ H' D = some (.lst (((xs.take i).filter b).map f))) ⟨Ext.upd hD, upd_same⟩ (fun i H' _ pv => hx.ext pv.1) (fun i x H' hi pv => turn D hD i x H' hi pv) (fun H' pv => fin D hD H' pv)⟩
end
end L2

set_option Elab.async false
set_option maxRecDepth 100000
set_option maxHeartbeats 4000000
namespace L2
open PySem PySem.Spec PyProof.Rows
section
variable {X : Cx} {m : Str} {k : Nat} {ps : List Str} {sp : Sp} {e o : Expr} {es : List Expr} {t : TA} {ta : TE} {pos apos : Pos} {C : Addr} {W : WX}
/-- o.m(e, ..) that may raise; W is wished for what it raises -/
theorem pe_ownMS {pl : Sem Bool} (O : OwnM X.prog X.w X.K X.mg X.base (L2.CX X.prog X.w) C m k ps sp) (he : PE X o ta) (c : Cls X.K C) (hr : Room k X.A) (tk : Takes X W) (ha : PA X (e :: es) t)
    (hst : starEach (e :: es) X.env = (false, eval e X.env) :: starEach es X.env := by rfl) (hpl : (backTo pos (starEach es X.env)).any (·.1) = false := by rfl)
    (ht : eval (.Call (.Attribute o m apos) (e :: es) [] pos) X.env = (do
      let ov ← eval o X.env
      standAt apos.atName
      let (f, first) ← holding [ov] (getMethod ov m pl)
      callWith pos f first (backTo pos (starEach (e :: es) X.env)) (backToKw pos (keywordEach [] X.env))) := by rfl) :
    PE X (.Call (.Attribute o m apos) (e :: es) [] pos) (tMethSD C m sp [] (WE W) ta t) := by
  obtain ⟨f, fd, F, M, _, hb⟩ := O.ex
  exact pe_methSD he c M F hr hb .nil (fun σ => passAt tk σ) ha hst hpl ht
theorem PE.imp {ex : Expr} {t1 t2 : TE} (h : PE X ex t1) (i : ∀ σ H Q, t2 σ H Q → t1 σ H Q) : PE X ex t2 := ⟨fun pins s σ H Q I z => h.run pins s σ H Q I (i σ H Q z)⟩
end
end L2

set_option Elab.async false
set_option linter.all false
set_option maxRecDepth 100000
set_option maxHeartbeats 4000000
/-! tuples of own objects, compared by their own ==, whichever the answer -/
namespace GQ
open PySem PySem.SeqAt
open AutoSeq1 (wpAny_loadPart')
open MeetsSeq MeetsSeq2 MeetsSeq3 SeqRoads2
section
variable {prog : Program} {w : World} {A : Around} {R : Result → Shared → Prop}
/-- the places one by one: I goes on, J at the first two that differ -/
theorem tup_eqB (la lb : Addr) (xs ys : Array Value) (n n2 : Nat) (dd dd2 : Option Addr) (sl sl2 : Array (Option Value)) (hsz : xs.size = ys.size) (I : Nat → Shared → Prop) (J : Shared → Prop)
    (turn : ∀ i (h1 : i < xs.size) (h2 : i < ys.size) s, I i s → wpAny (model prog w) A.in1 (eqBool xs[i] ys[i]) (fun r s' => (r = true ∧ I (i + 1) s') ∨ (r = false ∧ J s')) (fun e s' => R (.error e) s') s)
    (finT : ∀ s, I xs.size s → R (.ok (.ret (.bool true))) s) (finF : ∀ s, J s → R (.ok (.ret (.bool false))) s) {s : Shared}
    (hla : s.heap.get? la = some { cls := .type "tuple", dict := dd, data := .seq xs n, slots := sl }) (hlb : s.heap.get? lb = some { cls := .type "tuple", dict := dd2, data := .seq ys n2, slots := sl2 }) (h : I 0 s) :
    wpAny (model prog w) A.in1 (Builtin.«tuple.__eq__» ⟨[.ref la, .ref lb], []⟩) (FinOf prog w A R) (fun e s' => R (.error e) s') s := by
  have f2 := AutoSeq1.sub_tuple_tuple
  have hZ : (xs.toList.zip ys.toList).length = xs.size := by simp [hsz]
  have h0 := h
  obtain ⟨hp, g, d, tk, os⟩ := s
  wp_walk using wpAny_loadPart' hla, wpAny_loadPart' hlb, wpAny_forIn_list _ (fun rest b s' => b.1 = none ∧ ∃ i, rest = (xs.toList.zip ys.toList).drop i ∧ i ≤ xs.size ∧ I i s') _
  case turn =>
    rintro ⟨y, x⟩ rest b s' ⟨hb', i, hz, hi, hI⟩
    have hlt : i < (xs.toList.zip ys.toList).length := by
      rcases Nat.lt_or_ge i (xs.toList.zip ys.toList).length with h' | h'
      · exact h'
      · rw [List.drop_of_length_le h'] at hz
        cases hz
    have h1 : i < xs.size := hZ ▸ hlt
    have h2 : i < ys.size := hsz ▸ h1
    rw [List.drop_eq_getElem_cons hlt] at hz
    injection hz with hyx hrest
    have hy : y = xs[i] := by
      have q := congrArg Prod.fst hyx
      simpa using q
    have hx : x = ys[i] := by
      have q := congrArg Prod.snd hyx
      simpa using q
    subst hy hx
    refine wpAny_bind (wpAny_mono (turn i h1 h2 s' hI) (fun r s2 q2 => ?_) fun _ _ x => x)
    rcases q2 with ⟨hr, q2⟩ | ⟨hr, q2⟩
    · subst hr
      wp_walk
      exact ⟨rfl, i + 1, hrest, h1, q2⟩
    · subst hr
      have hR : R (.ok (.ret (.bool false))) s2 := finF s2 q2
      wp_walk
      exact hR
  case fin =>
    rintro ⟨b1, b2⟩ s' ⟨hb', i, hz, hi, hI⟩
    simp only at hb'
    subst hb'
    have hge : xs.size ≤ i := by
      rcases Nat.lt_or_ge i (xs.toList.zip ys.toList).length with h' | h'
      · rw [List.drop_eq_getElem_cons h'] at hz
        cases hz
      · exact hZ ▸ h'
    have hi' : i = xs.size := by omega
    have hR : R (.ok (.ret (.bool true))) s' := finT s' (hi' ▸ hI)
    wp_walk
    simpa [Builtin.Tuple.tupleCompareSizes, hsz] using hR
  case h =>
    exact ⟨rfl, 0, rfl, Nat.zero_le _, h0⟩
/-- the same for != -/
theorem tup_neB (la lb : Addr) (xs ys : Array Value) (n n2 : Nat) (dd dd2 : Option Addr) (sl sl2 : Array (Option Value)) (hsz : xs.size = ys.size) (I : Nat → Shared → Prop) (J : Shared → Prop)
    (turn : ∀ i (h1 : i < xs.size) (h2 : i < ys.size) s, I i s → wpAny (model prog w) A.in1 (eqBool xs[i] ys[i]) (fun r s' => (r = true ∧ I (i + 1) s') ∨ (r = false ∧ J s')) (fun e s' => R (.error e) s') s)
    (finT : ∀ s, I xs.size s → R (.ok (.ret (.bool false))) s) (finF : ∀ s, J s → R (.ok (.ret (.bool true))) s) {s : Shared}
    (hla : s.heap.get? la = some { cls := .type "tuple", dict := dd, data := .seq xs n, slots := sl }) (hlb : s.heap.get? lb = some { cls := .type "tuple", dict := dd2, data := .seq ys n2, slots := sl2 }) (h : I 0 s) :
    wpAny (model prog w) A.in1 (Builtin.«tuple.__ne__» ⟨[.ref la, .ref lb], []⟩) (FinOf prog w A R) (fun e s' => R (.error e) s') s := by
  have f2 := AutoSeq1.sub_tuple_tuple
  have hZ : (xs.toList.zip ys.toList).length = xs.size := by simp [hsz]
  have h0 := h
  obtain ⟨hp, g, d, tk, os⟩ := s
  wp_walk using wpAny_loadPart' hla, wpAny_loadPart' hlb, wpAny_forIn_list _ (fun rest b s' => b.1 = none ∧ ∃ i, rest = (xs.toList.zip ys.toList).drop i ∧ i ≤ xs.size ∧ I i s') _
  case turn =>
    rintro ⟨y, x⟩ rest b s' ⟨hb', i, hz, hi, hI⟩
    have hlt : i < (xs.toList.zip ys.toList).length := by
      rcases Nat.lt_or_ge i (xs.toList.zip ys.toList).length with h' | h'
      · exact h'
      · rw [List.drop_of_length_le h'] at hz
        cases hz
    have h1 : i < xs.size := hZ ▸ hlt
    have h2 : i < ys.size := hsz ▸ h1
    rw [List.drop_eq_getElem_cons hlt] at hz
    injection hz with hyx hrest
    have hy : y = xs[i] := by
      have q := congrArg Prod.fst hyx
      simpa using q
    have hx : x = ys[i] := by
      have q := congrArg Prod.snd hyx
      simpa using q
    subst hy hx
    refine wpAny_bind (wpAny_mono (turn i h1 h2 s' hI) (fun r s2 q2 => ?_) fun _ _ x => x)
    rcases q2 with ⟨hr, q2⟩ | ⟨hr, q2⟩
    · subst hr
      wp_walk
      exact ⟨rfl, i + 1, hrest, h1, q2⟩
    · subst hr
      have hR : R (.ok (.ret (.bool true))) s2 := finF s2 q2
      wp_walk
      exact hR
  case fin =>
    rintro ⟨b1, b2⟩ s' ⟨hb', i, hz, hi, hI⟩
    simp only at hb'
    subst hb'
    have hge : xs.size ≤ i := by
      rcases Nat.lt_or_ge i (xs.toList.zip ys.toList).length with h' | h'
      · rw [List.drop_eq_getElem_cons h'] at hz
        cases hz
      · exact hZ ▸ h'
    have hi' : i = xs.size := by omega
    have hR : R (.ok (.ret (.bool false))) s' := finT s' (hi' ▸ hI)
    wp_walk
    simpa [Builtin.Tuple.tupleCompareSizes, bne, hsz] using hR
  case h =>
    exact ⟨rfl, 0, rfl, Nat.zero_le _, h0⟩
end
end GQ
namespace GQ
open PySem PySem.SeqAt
section
variable {prog : Program} {w : World} {A : Around} {E : Value → Shared → Prop} {s : Shared}
theorem rc_tupB {la lb : Addr} {xs ys : Array Value} {Q : Value → Shared → Prop} (hsz : xs.size = ys.size) (hu : A.units < cLine) (I : Nat → Shared → Prop) (J : Shared → Prop) (hla : s.heap.IsTuple la xs) (hlb : s.heap.IsTuple lb ys)
    (turn : ∀ i (h1 : i < xs.size) (h2 : i < ys.size) s, I i s → wpAny (model prog w) A.in1 (eqBool xs[i] ys[i]) (fun r s' => (r = true ∧ I (i + 1) s') ∨ (r = false ∧ J s')) E s)
    (finT : ∀ s, I xs.size s → Q (.bool true) s) (finF : ∀ s, J s → Q (.bool false) s) (h : I 0 s) : wpAny (model prog w) A (richCompare .Eq (.ref la) (.ref lb)) Q E s := by
  obtain ⟨⟨cls, dd, data, sl⟩, ho, hc, n, hd⟩ := id hla
  obtain ⟨⟨cls2, dd2, data2, sl2⟩, ho2, hc2, n2, hd2⟩ := id hlb
  simp only at hc hd hc2 hd2
  subst hc hd hc2 hd2
  refine wpAny_richCompare_same_room (op := .Eq) ⟨_, ho, rfl⟩ ⟨_, ho2, rfl⟩ F.slot_tuple_eq (call_here F.slot_tuple_eq ⟨_, ho, rfl⟩ F.entry_tuple_eq (F.args_tuple_eq_2 _ _) ?_) hu
  exact tup_eqB (R := wants (fun v s' => v ≠ .notImplemented ∧ Q v s') E) la lb xs ys n n2 dd dd2 sl sl2 hsz I J turn (fun s' q => ⟨(fun x => nomatch x), finT s' q⟩) (fun s' q => ⟨(fun x => nomatch x), finF s' q⟩) ho ho2 h
theorem rc_tupNB {la lb : Addr} {xs ys : Array Value} {Q : Value → Shared → Prop} (hsz : xs.size = ys.size) (hu : A.units < cLine) (I : Nat → Shared → Prop) (J : Shared → Prop) (hla : s.heap.IsTuple la xs) (hlb : s.heap.IsTuple lb ys)
    (turn : ∀ i (h1 : i < xs.size) (h2 : i < ys.size) s, I i s → wpAny (model prog w) A.in1 (eqBool xs[i] ys[i]) (fun r s' => (r = true ∧ I (i + 1) s') ∨ (r = false ∧ J s')) E s)
    (finT : ∀ s, I xs.size s → Q (.bool false) s) (finF : ∀ s, J s → Q (.bool true) s) (h : I 0 s) : wpAny (model prog w) A (richCompare .NotEq (.ref la) (.ref lb)) Q E s := by
  obtain ⟨⟨cls, dd, data, sl⟩, ho, hc, n, hd⟩ := id hla
  obtain ⟨⟨cls2, dd2, data2, sl2⟩, ho2, hc2, n2, hd2⟩ := id hlb
  simp only at hc hd hc2 hd2
  subst hc hd hc2 hd2
  refine wpAny_richCompare_same_room (op := .NotEq) ⟨_, ho, rfl⟩ ⟨_, ho2, rfl⟩ F.slot_tuple_ne (call_here F.slot_tuple_ne ⟨_, ho, rfl⟩ F.entry_tuple_ne (F.args_tuple_ne_2 _ _) ?_) hu
  exact tup_neB (R := wants (fun v s' => v ≠ .notImplemented ∧ Q v s') E) la lb xs ys n n2 dd dd2 sl sl2 hsz I J turn (fun s' q => ⟨(fun x => nomatch x), finT s' q⟩) (fun s' q => ⟨(fun x => nomatch x), finF s' q⟩) ho ho2 h
end
end GQ
namespace L2
open PySem PySem.Spec PyProof.Rows
/-- how two values compare, by the abstract heap -/
abbrev EqvB := V → V → Hp → Bool → Prop
def MonB (D : EqvB) : Prop := ∀ x y H H' k, Ext H H' → D x y H k → D x y H' k
def EqB (X : Cx) (n : Nat) (D : EqvB) : Prop :=
  ∀ (A : Around) (pins : List (Addr × Obj)) (s : Shared) (σ : St) (H : Hp) (x y : V) (u v : Value) (k : Bool), Sub X n A → Inv X pins σ H s → RelV x u → RelV y v → D x y H k →
    wpAny (model X.prog X.w) A (eqBool u v) (fun r s' => r = k ∧ ∃ H', Inv X pins σ H' s' ∧ Ext H H') X.xe s
def RcB (X : Cx) (n : Nat) (D : EqvB) : Prop :=
  ∀ (A : Around) (pins : List (Addr × Obj)) (s : Shared) (σ : St) (H : Hp) (x y : V) (u v : Value) (k : Bool), Sub X n A → Inv X pins σ H s → RelV x u → RelV y v → D x y H k →
    wpAny (model X.prog X.w) A (richCompare .Eq u v) (fun r s' => r = .bool k ∧ ∃ H', Inv X pins σ H' s' ∧ Ext H H') X.xe s
section
variable {X : Cx} {n : Nat} {D : EqvB}
/-- instances of the class at C -/
def DInsB (C : Addr) (R : Addr → Addr → Hp → Bool → Prop) : EqvB := fun x y H k => ∃ a b dx dy fs gs, x = .ref a ∧ y = .ref b ∧ H a = some (.ins C dx fs) ∧ H b = some (.ins C dy gs) ∧ R a b H k
def spEqB (R : Addr → Addr → Hp → Bool → Prop) : Sp := fun vs H Q _ => ∃ a b k, vs = [.ref a, .ref b] ∧ R a b H k ∧ ∀ H', Ext H H' → Q (.bl k) H'
theorem rcB_ins {CX : CXT} {C f : Addr} {fd : FuncData} {ps : List Str} {R : Addr → Addr → Hp → Bool → Prop} {E : XK} (F : FnOk X.prog X.w X.K X.mg X.base CX n f fd ps (spEqB R))
    (hs : PySem.W.findIn X.K (.ref C) "__eq__" = some (some (.ref f))) (hf : PySem.W.isFn X.K (.ref f) = true) (hb : Binds X.K fd ps []) (hx : Passes CX X E) : RcB X n (DInsB C R) := by
  intro A pins s σ H x y u v k sb I rx ry d
  obtain ⟨a, b, dx, dy, fs, gs, rfl, rfl, ha, hb', hr⟩ := d
  cases rx
  cases ry
  obtain ⟨mA, J, _⟩ := ins_get I.hok ha
  obtain ⟨mB, J', _⟩ := ins_get I.hok hb'
  obtain ⟨od, J, _⟩ := J.look
  obtain ⟨od', J', _⟩ := J'.look
  obtain ⟨m, hF⟩ := I.fr
  refine PySem.W.cmp_K (op := .Eq) (tb := .ref C) sb.room.units0 hF I.ok.mod.kin J J'.type (by simp [PySem.W.notFirst]) hs hf ?_
  have hsp : spEqB R [.ref a, .ref b] H (fun v H' => v = .bl k ∧ Ext H H') E := ⟨a, b, k, rfl, hr, fun H' e => ⟨rfl, e⟩⟩
  have e1 := I.env0
  have e0 : Env0 X.prog X.w X.K X.mg X.base A X.stack s H := ⟨by rw [sb.fr]; exact e1.frames, e1.mod, e1.bs, e1.bsz, e1.funs, e1.frf, e1.hok, e1.bare⟩
  have hl := F.len _ _ _ _ hsp
  have bd := hb s [.ref a, .ref b] I.kIn (by simpa using hl)
  have bd' : BindsTo s fd ⟨[.ref a, .ref b], []⟩ (ps.zip [.ref a, .ref b]) := by simpa using bd
  refine wpAny_call (codeAny_mono (F.run A X.stack s H ⟨[.ref a, .ref b], []⟩ [.ref a, .ref b] [.ref a, .ref b] _ E sb.room e0 bd' (.cons rfl (.cons rfl .nil)) hsp) fun r s' hq => ?_)
  match r, hq with
  | .error e, hq => exact hx pins σ H s e s' I hq
  | .ok (.ret z), hq =>
    obtain ⟨zv, H', I', rz, ez, ex⟩ := I.after hq
    subst ez
    cases rz
    exact ⟨rfl, H', I', ex⟩
  | .ok .next, hq => exact hq.elim
  | .ok .brk, hq => exact hq.elim
  | .ok .cont, hq => exact hq.elim
/-- within a tuple: the same object is equal to itself -/
theorem RcB.eqB (h : RcB X n D) (hr : ∀ x y H k, D x y H k → ∃ a b, x = .ref a ∧ y = .ref b ∧ (a = b → k = true)) : EqB X n D := by
  intro A pins s σ H x y u v k sb I rx ry d
  obtain ⟨a, b, rfl, rfl, hk⟩ := hr _ _ _ _ d
  cases rx
  cases ry
  by_cases hab : a = b
  · have hk' := hk hab
    subst hab hk'
    exact SeqAt.EqAt.same (A := A) (s := s) (.ref a) X.prog X.w X.xe _ ⟨rfl, H, I, Ext.rfl'⟩
  · refine GQ.eqBool_refG hab (wpAny_mono (h A pins s σ H (.ref a) (.ref b) _ _ k sb I rfl rfl d) (fun r s' q => ?_) fun _ _ x => x)
    obtain ⟨hr', q⟩ := q
    exact ⟨k, hr', rfl, q⟩
/-- tuples of one length, place by place; ks the answers -/
def DTupB (K : PySem.W.Frag) (D : EqvB) : EqvB := fun x y H k => ∃ (a b : Addr) (xs ys : List V) (ks : List Bool), x = .ref a ∧ y = .ref b ∧ SqT K H a xs ∧ SqT K H b ys ∧ xs.length = ys.length ∧ ks.length = xs.length ∧
  (∀ (i : Nat) x y c, xs[i]? = some x → ys[i]? = some y → ks[i]? = some c → D x y H c) ∧ k = ks.all id
theorem all_take {ks : List Bool} {i : Nat} (h : ∀ j, j < i → ks[j]? = some true) (hi : ks.length ≤ i) : ks.all id = true := by
  rw [List.all_eq_true]
  intro c hc
  obtain ⟨j, hj⟩ := List.mem_iff_getElem?.mp hc
  have hjl := (List.getElem?_eq_some_iff.mp hj).1
  have q := h j (Nat.lt_of_lt_of_le hjl hi)
  rw [hj] at q
  cases q
  rfl
theorem rcB_tup (hD : MonB D) (h : EqB X n D) : RcB X (n + 1) (DTupB X.K D) := by
  intro A pins s σ H x y u v k sb I rx ry d
  obtain ⟨a, b, xs, ys, ks, rfl, rfl, ha, hb, hlen, hks, hp, rfl⟩ := d
  cases rx
  cases ry
  obtain ⟨its, r, e, z⟩ := I.tuple ha
  obtain ⟨its2, r2, e2, z2⟩ := I.tuple hb
  have l1 := r.length
  have l2 := r2.length
  have hsz : its.toArray.size = its2.toArray.size := by rw [List.size_toArray, List.size_toArray, ← l1, ← l2]; exact hlen
  refine GQ.rc_tupB hsz sb.room.units0 (fun i s' => (∃ H', Inv X pins σ H' s' ∧ Ext H H') ∧ ∀ j, j < i → ks[j]? = some true) (fun s' => (∃ H', Inv X pins σ H' s' ∧ Ext H H') ∧ ks.all id = false) e e2 (fun i h1 h2 s' q => ?_) (fun s' q => ?_) (fun s' q => ?_) ⟨⟨H, I, Ext.rfl'⟩, fun j hj => absurd hj (Nat.not_lt_zero _)⟩
  · obtain ⟨⟨H1, I1, e1⟩, hk⟩ := q
    have h1' : i < its.length := by simpa using h1
    have h2' : i < its2.length := by simpa using h2
    have g1 : its[i]? = some its.toArray[i] := by rw [List.getElem?_eq_getElem h1'] <;> simp
    have g2 : its2[i]? = some its2.toArray[i] := by rw [List.getElem?_eq_getElem h2'] <;> simp
    have k1 : i < xs.length := by omega
    have k2 : i < ys.length := by omega
    have k3 : i < ks.length := by omega
    obtain ⟨uu, hu, ru⟩ := r.get (List.getElem?_eq_getElem k1)
    obtain ⟨vv, hv, rv⟩ := r2.get (List.getElem?_eq_getElem k2)
    rw [g1] at hu
    rw [g2] at hv
    rw [Option.some.inj hu, Option.some.inj hv]
    refine wpAny_mono (h A.in1 pins s' σ H1 _ _ uu vv ks[i] sb.in1 I1 ru rv (hD _ _ _ _ _ e1 (hp i _ _ _ (List.getElem?_eq_getElem k1) (List.getElem?_eq_getElem k2) (List.getElem?_eq_getElem k3)))) (fun rr s2 q2 => ?_) fun _ _ x => x
    obtain ⟨hr, H2, I2, e2'⟩ := q2
    have hki : ks[i]? = some rr := by rw [hr]; exact List.getElem?_eq_getElem k3
    cases rr with
    | true =>
      refine .inl ⟨rfl, ⟨H2, I2, e1.trans e2'⟩, fun j hj => ?_⟩
      rcases Nat.lt_succ_iff_lt_or_eq.mp hj with hj | rfl
      · exact hk j hj
      · exact hki
    | false =>
      refine .inr ⟨rfl, ⟨H2, I2, e1.trans e2'⟩, ?_⟩
      rw [List.all_eq_false]
      exact ⟨false, List.mem_of_getElem? hki, by decide⟩
  · obtain ⟨q1, hk⟩ := q
    exact ⟨by rw [all_take hk (by simp; omega)], q1⟩
  · obtain ⟨q1, hk⟩ := q
    exact ⟨by rw [hk], q1⟩
/-- the same for !=, told by what == would say -/
def RcNB (X : Cx) (n : Nat) (D : EqvB) : Prop :=
  ∀ (A : Around) (pins : List (Addr × Obj)) (s : Shared) (σ : St) (H : Hp) (x y : V) (u v : Value) (k : Bool), Sub X n A → Inv X pins σ H s → RelV x u → RelV y v → D x y H k →
    wpAny (model X.prog X.w) A (richCompare .NotEq u v) (fun r s' => r = .bool (!k) ∧ ∃ H', Inv X pins σ H' s' ∧ Ext H H') X.xe s
theorem rcNB_tup (hD : MonB D) (h : EqB X n D) : RcNB X (n + 1) (DTupB X.K D) := by
  intro A pins s σ H x y u v k sb I rx ry d
  obtain ⟨a, b, xs, ys, ks, rfl, rfl, ha, hb, hlen, hks, hp, rfl⟩ := d
  cases rx
  cases ry
  obtain ⟨its, r, e, z⟩ := I.tuple ha
  obtain ⟨its2, r2, e2, z2⟩ := I.tuple hb
  have l1 := r.length
  have l2 := r2.length
  have hsz : its.toArray.size = its2.toArray.size := by rw [List.size_toArray, List.size_toArray, ← l1, ← l2]; exact hlen
  refine GQ.rc_tupNB hsz sb.room.units0 (fun i s' => (∃ H', Inv X pins σ H' s' ∧ Ext H H') ∧ ∀ j, j < i → ks[j]? = some true) (fun s' => (∃ H', Inv X pins σ H' s' ∧ Ext H H') ∧ ks.all id = false) e e2 (fun i h1 h2 s' q => ?_) (fun s' q => ?_) (fun s' q => ?_) ⟨⟨H, I, Ext.rfl'⟩, fun j hj => absurd hj (Nat.not_lt_zero _)⟩
  · obtain ⟨⟨H1, I1, e1⟩, hk⟩ := q
    have h1' : i < its.length := by simpa using h1
    have h2' : i < its2.length := by simpa using h2
    have g1 : its[i]? = some its.toArray[i] := by rw [List.getElem?_eq_getElem h1'] <;> simp
    have g2 : its2[i]? = some its2.toArray[i] := by rw [List.getElem?_eq_getElem h2'] <;> simp
    have k1 : i < xs.length := by omega
    have k2 : i < ys.length := by omega
    have k3 : i < ks.length := by omega
    obtain ⟨uu, hu, ru⟩ := r.get (List.getElem?_eq_getElem k1)
    obtain ⟨vv, hv, rv⟩ := r2.get (List.getElem?_eq_getElem k2)
    rw [g1] at hu
    rw [g2] at hv
    rw [Option.some.inj hu, Option.some.inj hv]
    refine wpAny_mono (h A.in1 pins s' σ H1 _ _ uu vv ks[i] sb.in1 I1 ru rv (hD _ _ _ _ _ e1 (hp i _ _ _ (List.getElem?_eq_getElem k1) (List.getElem?_eq_getElem k2) (List.getElem?_eq_getElem k3)))) (fun rr s2 q2 => ?_) fun _ _ x => x
    obtain ⟨hr, H2, I2, e2'⟩ := q2
    have hki : ks[i]? = some rr := by rw [hr]; exact List.getElem?_eq_getElem k3
    cases rr with
    | true =>
      refine .inl ⟨rfl, ⟨H2, I2, e1.trans e2'⟩, fun j hj => ?_⟩
      rcases Nat.lt_succ_iff_lt_or_eq.mp hj with hj | rfl
      · exact hk j hj
      · exact hki
    | false =>
      refine .inr ⟨rfl, ⟨H2, I2, e1.trans e2'⟩, ?_⟩
      rw [List.all_eq_false]
      exact ⟨false, List.mem_of_getElem? hki, by decide⟩
  · obtain ⟨q1, hk⟩ := q
    exact ⟨by rw [all_take hk (by simp; omega)]; rfl, q1⟩
  · obtain ⟨q1, hk⟩ := q
    exact ⟨by rw [hk]; rfl, q1⟩
/-- x == y, x != y as expressions -/
def rEqB (D : EqvB) : R2 := fun x y H Q => ∃ k, D x y H k ∧ ∀ H', Ext H H' → Q (.bl k) H'
def rNeB (D : EqvB) : R2 := fun x y H Q => ∃ k, D x y H k ∧ ∀ H', Ext H H' → Q (.bl (!k)) H'
theorem op_eqB (h : RcB X n D) (hr : Room n X.A) : OpR X (compareOp .Eq) (rEqB D) := by
  intro pins s σ H x y v u Q I rx ry hq
  obtain ⟨k, d, q⟩ := hq
  show wpAny (model X.prog X.w) X.A (richCompare .Eq v u) (EP X pins σ Q) X.xe s
  refine wpAny_mono (h X.A pins s σ H x y v u k ⟨hr, rfl⟩ I rx ry d) (fun r s' z => ?_) fun _ _ x => x
  obtain ⟨hr', H', I', e⟩ := z
  subst hr'
  exact ⟨.bl k, H', I', rfl, q H' e⟩
theorem op_neB (h : RcNB X n D) (hr : Room n X.A) : OpR X (compareOp .NotEq) (rNeB D) := by
  intro pins s σ H x y v u Q I rx ry hq
  obtain ⟨k, d, q⟩ := hq
  show wpAny (model X.prog X.w) X.A (richCompare .NotEq v u) (EP X pins σ Q) X.xe s
  refine wpAny_mono (h X.A pins s σ H x y v u k ⟨hr, rfl⟩ I rx ry d) (fun r s' z => ?_) fun _ _ x => x
  obtain ⟨hr', H', I', e⟩ := z
  subst hr'
  exact ⟨.bl (!k), H', I', rfl, q H' e⟩
end
end L2

set_option Elab.async false
set_option linter.all false
set_option maxRecDepth 100000
set_option maxHeartbeats 4000000
/-! except A as e: .. except B as e: ..; classes made with keyword-only parameters -/
namespace L2
open PySem PySem.Spec PyProof.Rows
abbrev SuT := Addr → Value → Option Addr → TS
/-- behind a suite the i-th slot is empty -/
def dropAt (i : Nat) (D : Ends) : Ends := { nx := fun g J => D.nx (g.set i none) J, rt := D.rt, bk := fun g J => D.bk (g.set i none) J, ct := fun g J => D.ct (g.set i none) J }
def wManyA (K : PySem.W.Frag) (Wo : WX) (D : Ends) : List (Value × Nat × SuT) → WX
  | [] => Wo
  | (c, i, ts) :: r => fun cl d g J => ∃ y, PySem.W.exmOne K cl c = some y ∧ (y = true → ∀ q, J q = none → ts q cl d (dropAt i D) (g.set i (some (.ref q))) J) ∧ (y = false → wManyA K Wo D r cl d g J)
inductive HdsA (X : Cx) : List ExceptHandler → List (Value × Nat × SuT) → Prop
  | nil : HdsA X [] []
  | cons {x n : Str} {c : Value} {i : Nat} {ts : SuT} {b0 : Stmt} {su : List Stmt} {np pp : Pos} {hds : List ExceptHandler} {l : List (Value × Nat × SuT)} (hi : X.N[i]? = some n) (hl : X.env.kindOf n = some .local) (hc : Names X x c)
      (hsu : ∀ (q : Addr) (oq : Obj) (cl : Value) (d : Option Addr) (pn : List (Addr × Obj)), Zc cl d oq → (∃ us, oq.data = .fields us) → PSs (X.suite q ((q, oq) :: pn)) (b0 :: su) (ts q cl d)) (r : HdsA X hds l) :
      HdsA X (.ExceptHandler (some (.Name x np)) (some n) (b0 :: su) pp :: hds) ((c, i, ts) :: l)
section
variable {X : Cx} {bd : List Stmt} {hd0 : ExceptHandler} {hds : List ExceptHandler} {l : List (Value × Nat × SuT)} {pos : Pos} {tb : WX → TS} {Wo : WX}
theorem ps_try_manyA (hs : X.stack = X.env :: X.outer) (hf : X.env.frame = some X.env.locals) (hN : X.N.Nodup) (tk : Takes X Wo)
    (hb : ∀ (W : WX) (pn : List (Addr × Obj)) (xe : Value → Shared → Prop), Takes (X.tr pn xe) W → PassesOwn (model X.prog X.w) X.A X.env xe → PSs (X.tr pn xe) bd (tb W))
    (hh : HdsA X (hd0 :: hds) l) : PS X (.Try bd (hd0 :: hds) [] [] pos) (fun D g J => tb (wManyA X.K Wo D l) D g J) := by
  refine ⟨fun pins s0 g0 J0 D I0 h => ?_⟩
  have kk := I0.ok
  have hfr : X.A.frames = some (X.env :: X.outer) := by rw [kk.frames, hs]
  refine wpAny_Try_except (wpAny_mono ((hb (wManyA X.K Wo D l) (X.pn ++ pins) (fun u t1 => wpAny (model X.prog X.w) X.A (noteFrame u X.env) (fun _ t2 => wpAny (model X.prog X.w) X.A (setFlight u none) (fun _ t3 =>
    wpAny (model X.prog X.w) X.A (handleBy u X.env (hd0 :: hds)) (SP X pins D) X.xe t3) X.xe t2) X.xe t1) (fun u t1 xx => ?_) PassesOwn.looking).run [] s0 g0 J0 D (I0.toTry _) h) (fun fl t1 hsp => ?_) (fun _ _ z => z))
  · obtain ⟨q, B, sI, pns, g1, J1, cl, d, rfl, K1, nb, up, sky, na, os, ag, wx⟩ := xx
    have V : Inv X pins g1 J1 sI := K1.ofTry kk
    have sky2 : Sky B (X.env :: X.outer) q (Zc cl d) X.env.locals t1.heap := by rw [← hs]; exact sky
    show wpAny (model X.prog X.w) X.A (noteFrame (.ref q) X.env) _ _ _
    refine Sky.land Zc.steady hfr hf sky2 fun h3 f3 u3 => ?_
    have V3 : Inv X pins g1 J1 { t1 with heap := h3 } := V.landed nb f3.1 (up.trans u3) os ag
    obtain ⟨o3, v3, e3, z3, d3⟩ := f3.there
    have apart : ∀ {hh : Heap} {o : Obj} {us : Array Value}, hh.FunFrames B (X.env :: X.outer) → hh.get? q = some o → o.data = .fields us → q ∉ frs (X.env :: X.outer) := fun {hh o us} ff e dd hm => by
      obtain ⟨_, o', e', hnf⟩ := ff.mem hm
      rw [e] at e'
      cases e'
      exact hnf _ dd
    have np := apart f3.2.2.1 e3 d3
    have nL : q ≠ X.env.locals := fun z => np (List.mem_filterMap.mpr ⟨X.env, List.mem_cons_self, by rw [hf, z]⟩)
    have nF : q ∉ X.fs := fun hm => by
      obtain ⟨e, he, r⟩ := List.mem_filterMap.mp hm
      exact np (List.mem_filterMap.mpr ⟨e, List.mem_cons_of_mem _ he, r⟩)
    have S3 := V3.suite e3 d3 na nL nF
    have go : ∀ {hz : List ExceptHandler} {lz : List (Value × Nat × SuT)}, HdsA X hz lz → wManyA X.K Wo D lz cl d g1 J1 → wpAny (model X.prog X.w) X.A (handleBy (.ref q) X.env hz) (SP X pins D) X.xe { t1 with heap := h3 } := by
      intro hz lz hk
      induction hk with
      | nil =>
        intro wz
        refine wpAny_handleBy_nil ?_
        obtain ⟨_, _, _, oq, us, TB, oT, ts2, he, hq, hdd, h1, hr⟩ := id f3
        unfold PySem.passOn
        refine wpAny_bind (wpAny_field he hdd h1 ?_)
        rw [if_neg (show ¬ ((Value.ref TB == Value.none) = true) by simp)]
        have fin : wpAny (model X.prog X.w) X.A (setFlight (.ref q) X.env.frame) (fun _ t4 => wpAny (model X.prog X.w) X.A (throw (.ref q) : Sem Flow) (SP X pins D) X.xe t4) X.xe { t1 with heap := h3 } := by
          rw [hf]
          refine HandSPX.setFlight_upZ f3 fun h4 hh4 up4 => wpAny_throw (tk _ _ ?_)
          exact ⟨q, B, sI, pins, g1, J1, cl, d, rfl, V, nb, (up.trans u3).trans up4, .inr (.inr (by rw [hs]; exact hh4)), na, os, ag, wz⟩
        first | exact wpAny_bind (wpAny_pure (wpAny_bind fin)) | exact wpAny_bind fin
      | @cons x n c i ts b0 su np pp hds2 l2 hi hl hc hsu r ih =>
        intro wz
        obtain ⟨y, hy, yes, no⟩ := wz
        refine wpAny_handleBy_cons (codeAny_handlers_test ?_) (by intro z; cases z)
        have LT : PySem.W.Looks (model X.prog X.w) h3 (typeOf (.ref q)) cl := fun A Q E s k r => wpAny_typeOf_ref (k _ _ e3) (by rw [z3.1]; exact r)
        have LM := PySem.W.exm_one (M := model X.prog X.w) (V3.kIn) LT hy
        have tst : ∀ {Q E : Value → Shared → Prop}, Q c { t1 with heap := h3 } → wpAny (model X.prog X.w) (X.A.mark (some (.ref q))) (eval (.Name x np) X.env) Q E { t1 with heap := h3 } := fun {Q E} z => by
          obtain ⟨hg, hdbg, hm | ⟨hm, hv, hnn⟩⟩ := hc
          · exact ld_glob (X := X.suite q ((q, o3) :: (X.pn ++ pins))) S3 hg hm z hdbg
          · exact ld_blt (X := X.suite q ((q, o3) :: (X.pn ++ pins))) S3 hg hm hv z hnn hdbg
        refine tst (LM.here ?_)
        cases y with
        | true =>
          refine codeAny_handlers_suite_as (HandSPX.lands_againZ f3 fun h4 f4 u4 => ?_)
          have V4 : Inv X pins g1 J1 { t1 with heap := h4 } := V.landed nb f4.1 ((up.trans u3).trans u4) os ag
          obtain ⟨o4, v4, e4, z4, d4⟩ := f4.there
          have S4 := V4.suite e4 d4 na nL nF
          have hloc : Loc X.env.scope n := .inl hl
          refine store_ok (X := X.suite q ((q, o4) :: (X.pn ++ pins))) (v := .ref q) S4 hN hi hloc rfl (fun t5 S5 => ?_) (.inr hl)
          refine wpAny_mono ((hsu q o4 cl d (X.pn ++ pins) z4 ⟨_, d4⟩).run [] t5 _ J1 _ S5 (yes rfl q na)) (fun fl t6 sp => ?_) (fun _ _ z => False.elim z)
          have ends : ∀ {g6 : St} {J6 : Hp} {Q : Shared → Prop}, Inv (X.suite q ((q, o4) :: (X.pn ++ pins))) [] g6 J6 t6 → (∀ t7, Inv X pins (g6.set i none) J6 t7 → Q t7) →
              wpAny (model X.prog X.w) X.A (do bindName X.env n .none; unbindBehindTheSuite X.env n pp) (fun _ t7 => Q t7) X.xe t6 := fun {g6 J6 Q} S6 hq => gone_ok (S6.unsuite kk) hN hi hl hq
          cases fl with
          | next =>
            obtain ⟨g6, J6, S6, r6⟩ := sp
            exact ends S6 fun t7 V7 => ⟨_, _, V7, r6⟩
          | brk =>
            obtain ⟨g6, J6, S6, r6⟩ := sp
            exact ends S6 fun t7 V7 => ⟨_, _, V7, r6⟩
          | cont =>
            obtain ⟨g6, J6, S6, r6⟩ := sp
            exact ends S6 fun t7 V7 => ⟨_, _, V7, r6⟩
          | ret u =>
            obtain ⟨w6, g6, J6, S6, r6, y6⟩ := sp
            exact ends S6 fun t7 V7 => ⟨_, _, _, V7, r6, y6⟩
        | false =>
          show wpAny _ X.A (handleBy (.ref q) X.env hds2) _ _ _
          exact ih (no rfl)
    exact go hh wx
  · cases fl with
    | next =>
      obtain ⟨g6, J6, V6, r⟩ := hsp
      exact wpAny_execs_nil ⟨g6, J6, V6.ofTry kk, r⟩
    | brk =>
      obtain ⟨g6, J6, V6, r⟩ := hsp
      exact ⟨g6, J6, V6.ofTry kk, r⟩
    | cont =>
      obtain ⟨g6, J6, V6, r⟩ := hsp
      exact ⟨g6, J6, V6.ofTry kk, r⟩
    | ret u =>
      obtain ⟨v6, g6, J6, V6, rv, r⟩ := hsp
      exact ⟨v6, g6, J6, V6.ofTry kk, rv, r⟩
end
/-! ### C(e, .., k = v, ..), keyword-only parameters without defaults, all written in their order -/
section
variable {K : PySem.W.Frag} {x qual : Str} {st : Stmt} {f : Addr} {fd : FuncData} {ps ks : List Str} {n : Nat}
abbrev KBa (K : PySem.W.Frag) (fd : FuncData) (ps : List Str) (n : Nat) (ks : List Str) : Prop := KBn K fd ps n ks (fun us ws => us ++ ws) (fun vs zs => vs ++ zs)
theorem Fun.kba (F : Fun K x qual st f fd)
    (h : ∀ (kV doc pm : Value) (an : Option Addr) (cdv ct : Value) (us ws : List Value), us.length = n → ws.length = ks.length → bindArgs (PySem.W.fnOf x qual (defArgs st) (defBody st) (defScope st) .none kV doc pm an cdv ct) ⟨us, ks.zip ws⟩ = pure (ps.zip (us ++ ws))) : KBa K fd ps n ks := by
  obtain ⟨_, _, kV, doc, pm, an, cdv, ct, _, rfl, _, _⟩ := F.ex
  exact ⟨fun s us ws _ l1 l2 => .of_eq (h kV doc pm an cdv ct us ws l1 l2), fun r1 r2 => r1.append r2⟩
end
structure OwnCK (P : Program) (w : World) (K : PySem.W.Frag) (mg : Str → Option Value) (base : Heap) (CX : CXT) (x : Str) (C : Addr) (k : Nat) (ps : List Str) (n : Nat) (ks : List Str) (sp : Sp) : Prop where
  ex : ∃ (f : Addr) (fd : FuncData), FnOk P w K mg base CX k f fd ps sp ∧ Mk K C f ∧ mg x = some (.ref C) ∧ KBa K fd ps (n + 1) ks
section
variable {X : Cx} {CX : CXT} {k n : Nat} {f C : Addr} {fd : FuncData} {ps ks : List Str} {sp : Sp} {E : St → XK} {x : Str} {p pos : Pos} {e : Expr} {es : List Expr} {kws : List Keyword} {t tk : TA} {W : WX}
/-- the errors wished at the slots -/
def tMakeKS (C : Addr) (n m : Nat) (sp : Sp) (E : St → XK) (t tk : TA) : TE := fun g J Q => t g J fun vs J1 => tk g J1 fun zs J2 => vs.length = n ∧ zs.length = m ∧ ∀ o dx, J2 o = none → J2 dx = none → dx ≠ o →
  sp (.ref o :: vs ++ zs) (upd (upd J2 dx (.own o)) o (.ins C dx [])) (fun v J3 => v = .non ∧ Q (.ref o) J3) (fun cl d J3 => E g cl d J3)
theorem run_makeKS {pins : List (Addr × Obj)} {g : St} {J : Hp} {s : Shared} {Q : VK} {us ws : List Value} {vs zs : List V} (M : Mk X.K C f) (F : FnOk X.prog X.w X.K X.mg X.base CX k f fd ps sp) (hr : Room (k + 1) X.A) (hb : KBa X.K fd ps (n + 1) ks) (hx : PassesAt CX X g (E g))
    (I : Inv X pins g J s) (r : Vals vs us) (rz : Vals zs ws) (l1 : vs.length = n) (l2 : zs.length = ks.length)
    (h : ∀ o dx, J o = none → J dx = none → dx ≠ o → sp (.ref o :: vs ++ zs) (upd (upd J dx (.own o)) o (.ins C dx [])) (fun v J2 => v = .non ∧ Q (.ref o) J2) (E g)) :
    wpAny (model X.prog X.w) X.A (call (.ref C) us (ks.zip ws)) (EP X pins g Q) X.xe s := by
  have want := h (s.heap.objs.size + 1) s.heap.objs.size (I.hok.fresh (Nat.le_succ _)) (I.hok.fresh (Nat.le_refl _)) (Nat.ne_of_lt (Nat.lt_succ_self _))
  have I2 := Inv.made (C := C) I
  have m1 : Vals (V.ref (s.heap.objs.size + 1) :: vs) (Value.ref (s.heap.objs.size + 1) :: us) := .cons rfl r
  have m2 := hb.rel m1 rz
  have k1 : (Value.ref (s.heap.objs.size + 1) :: us).length = n + 1 := by rw [List.length_cons, ← r.length, l1]
  refine wpAny_call (make_map (f := f) I.kIn M.makes M.init (beq_iff_eq.mp M.fn) (codeAny_mono (F.run _ X.stack _ _ ⟨Value.ref (s.heap.objs.size + 1) :: us, ks.zip ws⟩ (Value.ref (s.heap.objs.size + 1) :: us ++ ws) _ _ (E g) (hr.make C us (ks.zip ws))
    (I2.env0.make C us (ks.zip ws)) (hb.to _ (Value.ref (s.heap.objs.size + 1) :: us) ws I2.kIn k1 (rz.length.symm.trans l2)) m2 want) fun z t1 hz => ?_))
  cases z with
  | error u => exact hx pins _ _ u t1 I2 hz
  | ok fl =>
    cases fl with
    | ret u =>
      obtain ⟨v, J3, I3, rv, ev, q3⟩ := I2.after hz
      subst ev
      exact ⟨rv, ⟨V.ref (s.heap.objs.size + 1), J3, I3, rfl, q3⟩⟩
    | next => exact False.elim hz
    | brk => exact False.elim hz
    | cont => exact False.elim hz
theorem pe_newKS (O : OwnCK X.prog X.w X.K X.mg X.base (L2.CX X.prog X.w) x C k ps n ks sp) (hr : Room (k + 1) X.A) (tw : Takes X W) (ha : PA X (e :: es) t) (hkw : PK X kws tk) (hg : Gl X x := by rfl)
    (hall : (backToKw pos (keywordEach kws X.env)).all (·.1.isSome) = true := by rfl) (hks : (backToKw pos (keywordEach kws X.env)).filterMap (·.1) = ks := by rfl) (hdb : (x == ("__debug__" : Str)) = false := by decide)
    (he : starEach (e :: es) X.env = (false, eval e X.env) :: starEach es X.env := by rfl) (hpl : ((backTo pos (starEach (e :: es) X.env)).any (·.1) || (backToKw pos (keywordEach kws X.env)).any (·.1.isNone)) = false := by rfl) :
    PE X (.Call (.Name x p) (e :: es) kws pos) (tMakeKS C n ks.length sp (WE W) t tk) := by
  obtain ⟨f, fd, F, M, hm, hb⟩ := O.ex
  refine ⟨fun pins s g J Q I h => wpAny_Call_Name_kw (ld_glob I hg hm ?_ hdb)⟩
  refine PySem.W.callWith_KW (h₀ := X.base) I.ok.mod.kin M.kp hall (thn (ha.run pos pins s g J _ I h) fun us s1 ⟨vs, J1, I1, r, q⟩ => ?_) hpl he
  refine thn (hkw.run pos pins s1 g J1 _ I1 q) fun ws s2 ⟨zs, J2, I2, rz, l1, l2, q2⟩ => ⟨I2.kIn, ?_⟩
  rw [hks]
  exact run_makeKS M F hr hb (passAt tw g) I2 r rz l1 l2 q2
end
section
variable {X : Cx} {e : Expr} {f : Str} {pos : Pos} {ta : TE}
/-- e.f where the context is not known yet -/
theorem pe_fldA (he : PE X e ta) (hb : attributeBase e f X.env (eval e X.env) = eval e X.env := by rfl) : PE X (.Attribute e f pos) (tFld X.K ta f) := pe_fld he hb
end
end L2

set_option Elab.async false
set_option maxRecDepth 100000
set_option maxHeartbeats 4000000
/-! slices and sums of tuples, whichever object it is -/
namespace L2
open PySem PySem.Spec PyProof.Rows
section
variable {X : Cx}
theorem cut_whole {xs : List V} {lo hi : Option Int} (h : HT.sIx xs.length 0 lo = 0 ∧ HT.sIx xs.length xs.length hi = xs.length) : cutV xs lo hi = xs := by
  unfold cutV
  rw [h.1, h.2]
  simp
/-- a slice of a tuple, whichever object it is -/
def rSlE : V → Option Int → Option Int → Hp → VK → Prop := fun x lo hi H Q => ∃ a xs, x = .ref a ∧ H a = some (.tup xs) ∧ ∀ p H', Ext H H' → H' p = some (.tup (cutV xs lo hi)) → Q (.ref p) H'
theorem sl_tupE : SlR X rSlE := by
  intro pins s σ H x v vl vu lo hi sl Q I rx hs pl pu h
  obtain ⟨a, xs, rfl, ha, q⟩ := h
  exact sl_tupA pins s σ H _ v vl vu lo hi sl Q I rx hs pl pu ⟨a, xs, rfl, SqT.of ha, fun hw => q a H Ext.rfl' (by rw [cut_whole hw]; exact ha), fun _ p hp => q p _ (Ext.upd hp) upd_same⟩
/-- the sum of two tuples, whichever object it is -/
def rCatE : R2 := fun x y H Q => ∃ a b xs ys, x = .ref a ∧ y = .ref b ∧ H a = some (.tup xs) ∧ H b = some (.tup ys) ∧ xs.length + ys.length ≤ sizeLine ∧ ∀ p H', Ext H H' → H' p = some (.tup (xs ++ ys)) → Q (.ref p) H'
theorem op_catE : OpR X (binaryOp .Add) rCatE := by
  intro pins s σ H x y v u Q I rx ry h
  obtain ⟨a, b, xs, ys, rfl, rfl, ha, hb, hz, q⟩ := h
  refine op_catA pins s σ H _ _ v u Q I rx ry ⟨a, b, xs, ys, rfl, rfl, SqT.of ha, SqT.of hb, hz, fun e => q b H Ext.rfl' ?_, fun _ e => q a H Ext.rfl' ?_, fun _ _ p hp => q p _ (Ext.upd hp) upd_same⟩
  · subst e
    exact hb
  · subst e
    rw [List.append_nil]
    exact ha
end
end L2

set_option Elab.async false
set_option linter.all false
set_option maxRecDepth 100000
set_option maxHeartbeats 4000000
/-! one of two readings; tuple.index of flat items; an own __contains__ -/
namespace PySem.W
open PySem PySem.Calls PyProof.Rows
section
variable {prog : Program} {w : World} {A : Around} {E : Value → Shared → Prop} {s : Shared} {K : Frag} {x C f : Addr} {ox : Obj} {od : Option Obj}
theorem contains_fn {v : Value} {Q : Bool → Shared → Prop} (X : K.In s.heap) (I : InstAt s.heap x ox C od) (hs : findIn K (.ref C) "__contains__" = some (some (.ref f))) (hf : isFn K (.ref f) = true)
    (h : wpAny (model prog w) A (call (.ref f) [.ref x, v]) (fun r s' => ∃ b, r = .bool b ∧ Q b s') E s) : wpAny (model prog w) A (contains (.ref x) v) Q E s := by
  unfold contains
  refine wpAny_holding ?_
  have e1 : stdlibNamesSay? (.ref x) v = none := rfl
  rw [e1]
  refine wpAny_bind (wpAny_bind (I.type.here ((looks_findIn X hs).here ?_)))
  show wpAny _ _ (if (some (Value.ref f) == some Value.none) = true then _ else _) _ _ _
  rw [if_neg (by simp)]
  refine wpAny_bind (m := callSpecialUnlessNone? (.ref x) _ _ _) ?_
  unfold callSpecialUnlessNone?
  refine wpAny_bind (wpAny_bind (I.type.here ((looks_findIn X hs).here ?_)))
  refine wpAny_holding (wpAny_bind ((bind_fn X _ (beq_iff_eq.mp hf)).here ?_))
  show wpAny _ _ (if (Value.ref f == Value.none) = true then _ else _) _ _ _
  rw [if_neg (by simp)]
  refine wpAny_bind (wpAny_mono h (fun r s' z => ?_) fun _ _ z => z)
  obtain ⟨b, rfl, q⟩ := z
  exact wpAny_pure (wpAny_truthy_bool q)
end
end PySem.W
namespace L2
open PySem PySem.Spec PyProof.Rows
section
variable {X : Cx}
theorem pe_either {ex : Expr} {t1 t2 : TE} (h1 : PE X ex t1) (h2 : PE X ex t2) : PE X ex (fun g J Q => t1 g J Q ∨ t2 g J Q) := ⟨fun pins s g J Q I h => h.elim (fun z => h1.run pins s g J Q I z) (fun z => h2.run pins s g J Q I z)⟩
def rIndexT (K : PySem.W.Frag) : V → List V → Hp → VK → Prop := fun o vs J Q => ∃ (p : Addr) (ts : List V) (e : V) (n : Nat) (c : V), o = V.ref p ∧ vs = [e] ∧ SqT K J p ts ∧ flatV e = true ∧ ts.all flatV = true ∧ ts[n]? = some c ∧ eqV c e = true ∧
  (∀ (m : Nat) (c' : V), m < n → ts[m]? = some c' → eqV c' e = false) ∧ Q (.int (n : Nat)) J
theorem mt_tupIndex : MtR X "tuple.index" (rIndexT X.K) := by
  intro pins s g J o vs v us Q I ro rvs h
  obtain ⟨p, ts, e, n, c, rfl, rfl, ht, fe, fts, hc, hce, no, q⟩ := h
  cases ro
  cases rvs with
  | cons re rt =>
    rename_i ue ut
    cases rt
    obtain ⟨its, rv, ⟨⟨cls, dd, dt, sl⟩, ho, hcl, nn, hd⟩, hz⟩ := I.tuple ht
    simp only at hcl hd
    subst hcl hd
    obtain ⟨u, hu, ru⟩ := rv.get hc
    obtain ⟨nl, ne⟩ := List.getElem?_eq_some_iff.mp hu
    have hvl := rv.length
    have hn : n < its.toArray.size := by simpa using nl
    refine call_meets PySem.F.slot_tuple_index ⟨_, ho, rfl⟩ PySem.F.entry_tuple_index (PySem.F.args_tuple_index_2 _ _) (TI.tuple_indexAt p its.toArray nn dd sl ue (eqU e) n hn ?_ ?_)
      ⟨ho, fun w hw => mem_eqAt re fe rv fts w (by simpa using hw), ?_⟩
    · have e1 : its.toArray[n] = u := by simpa using ne
      rw [e1, eqU_of ru (flat_at fts hc)]
      exact hce
    · intro m hm hmn
      have ml : m < its.length := by simpa using hm
      have mt : m < ts.length := by omega
      have gm : ts[m]? = some ts[m] := List.getElem?_eq_getElem mt
      obtain ⟨u2, hu2, ru2⟩ := rv.get gm
      obtain ⟨_, me⟩ := List.getElem?_eq_some_iff.mp hu2
      have e2 : its.toArray[m] = u2 := by simpa using me
      rw [e2, eqU_of ru2 (flat_at fts gm)]
      exact no m _ hmn gm
    · exact ⟨.int (n : Nat), J, I.tok _, ⟨_, rfl⟩, q⟩
end
section
variable {X : Cx} {CX : CXT} {k : Nat} {f C : Addr} {fd : FuncData} {ps : List Str} {sp : Sp}
/-- x in o, o an instance of the class at C with an own __contains__ -/
def rInO (C : Addr) (sp : Sp) : R2 := fun x y H Q => ∃ a dx fs, y = .ref a ∧ H a = some (.ins C dx fs) ∧ sp [y, x] H (fun v H' => ∃ b, v = .bl b ∧ Q (.bl b) H') E0
theorem op_inO (F : FnOk X.prog X.w X.K X.mg X.base CX k f fd ps sp) (hs : PySem.W.findIn X.K (.ref C) "__contains__" = some (some (.ref f))) (hf : PySem.W.isFn X.K (.ref f) = true) (hr : Room k X.A) (hb : Binds X.K fd ps []) (hx : Passes CX X E0) : OpR X (compareOp .In) (rInO C sp) := by
  intro pins s g J x y v u Q I rx ry hq
  obtain ⟨a, dx, fs, rfl, ha, q⟩ := hq
  cases (show u = Value.ref a from ry)
  obtain ⟨mA, O, _⟩ := ins_get I.hok ha
  obtain ⟨od, O, _⟩ := O.look
  show wpAny (model X.prog X.w) X.A (contains (.ref a) v >>= fun b => pure (.bool b)) (EP X pins g Q) X.xe s
  refine wpAny_bind (PySem.W.contains_fn I.kIn O hs hf (wpAny_mono (run_at (vs := [.ref a, x]) F hr rfl hb hx I (.cons rfl (.cons rx .nil)) q) (fun r s' z => ?_) fun _ _ e => e))
  obtain ⟨w', J', I', rv, b, rfl, q'⟩ := z
  cases rv
  exact ⟨b, rfl, wpAny_pure ⟨.bl b, J', I', rfl, q'⟩⟩
theorem inO {m : Nat} (O : OwnM X.prog X.w X.K X.mg X.base CX C "__contains__" m ps sp) (hr : Room m X.A) (hx : Passes CX X E0) : OpR X (compareOp .In) (rInO C sp) := by
  obtain ⟨f, fd, F, M, hi, hb⟩ := O.ex
  exact op_inO F M.at_ hi hr hb hx
end
end L2

set_option Elab.async false
set_option maxRecDepth 100000
set_option maxHeartbeats 4000000
/-! ranges with a step made lists and tuples; zip of two tuples in a comprehension; a def that is held by a name -/
namespace L2
open PySem PySem.Spec PyProof.Rows
theorem pss_dead {X : Cx} {ss : List Stmt} : PSs X ss (fun _ _ _ => False) := ⟨fun _ _ _ _ _ _ h => h.elim⟩
/-- the def at f keeps its promise -/
structure OwnAt (P : Program) (w : World) (K : PySem.W.Frag) (mg : Str → Option Value) (base : Heap) (CX : CXT) (f : Addr) (k : Nat) (ps : List Str) (sp : Sp) : Prop where
  ex : ∃ fd, FnOk P w K mg base CX k f fd ps sp ∧ PySem.W.keepIn K (.ref f) = true ∧ Binds K fd ps []
theorem Own.at_ {P : Program} {w : World} {K : PySem.W.Frag} {mg : Str → Option Value} {base : Heap} {CX : CXT} {x : Str} {k : Nat} {ps : List Str} {sp : Sp} (O : Own P w K mg base CX x k ps sp) : ∃ f, mg x = some (.ref f) ∧ OwnAt P w K mg base CX f k ps sp := by
  obtain ⟨f, fd, F, hm, hk, hb⟩ := O.ex
  exact ⟨f, hm, fd, F, hk, hb⟩
section
variable {X : Cx} {CX : CXT} {x : Str} {k i : Nat} {f : Addr} {ps : List Str} {sp : Sp} {e : Expr} {es : List Expr} {t : TA} {p pos : Pos}
/-- the i-th slot holds f, which is called; W is wished for what it raises -/
def tCallVS (i : Nat) (f : Addr) (sp : Sp) (E : St → XK) (t : TA) : TE := fun σ H Q => σ[i]? = some (some (.ref f)) ∧ t σ H fun vs H1 => sp vs H1 Q (E σ)
theorem pe_ownVS {W : WX} (O : OwnAt X.prog X.w X.K X.mg X.base (L2.CX X.prog X.w) f k ps sp) (hr : Room k X.A) (tk : Takes X W) (hN : X.N[i]? = some x) (hv : Vis X.env.scope x) (ha : PA X (e :: es) t)
    (hdb : (x == ("__debug__" : Str)) = false := by decide) (hcd : (x == ("__classdict__" : Str)) = false := by decide)
    (he : starEach (e :: es) X.env = (false, eval e X.env) :: starEach es X.env := by rfl) (hpl : (backTo pos (starEach es X.env)).any (·.1) = false := by rfl) : PE X (.Call (.Name x p) (e :: es) [] pos) (tCallVS i f sp (WE W) t) := by
  obtain ⟨fd, F, hk, hb⟩ := O.ex
  refine ⟨fun pins s σ H Q I h => ?_⟩
  obtain ⟨hσ, h⟩ := h
  refine PyProof.Rows.Call_ (thn ((pe_var (pos := p) hN hv hdb hcd).run pins s σ H (fun y H1 => y = .ref f ∧ H1 = H) I ⟨_, hσ, rfl, rfl⟩) fun u s1 ⟨y, H1, I1, rx, ex, eh⟩ => ?_) rfl
  subst ex eh
  obtain rfl : u = Value.ref f := rx
  refine PySem.W.callWith_K (h₀ := X.base) I1.ok.mod.kin hk (thn (ha.run pos pins s1 σ H1 _ I1 h) fun us s2 ⟨vs, H2, I2, r, q⟩ => ⟨I2.kIn, ?_⟩) he hpl
  exact run_fnSD (us := us) (vs := vs) F hr hb .nil (passAt tk σ) I2 r (by rw [List.append_nil]; exact q)
end
/-! zip of two tuples -/
section
variable {K : PySem.W.Frag} {a b : Addr} {xs ys : List V}
theorem walk_zipT {n : Nat} (hn : n = min xs.length ys.length) : Walk (RZ.ItzT K a b) n (fun H => SqT K H a xs ∧ SqT K H b ys) (YPair (fun i => xs[i]?) (fun i => ys[i]?)) := by
  refine ⟨fun i _ hi q => ⟨xs, ys, xs[i]'(by omega), ys[i]'(by omega), q.1, q.2, List.getElem?_eq_getElem (by omega), List.getElem?_eq_getElem (by omega)⟩, fun _ q => ⟨xs, ys, q.1, q.2, by omega⟩, fun i H v H' _ q y => ?_⟩
  obtain ⟨T, x, y, e1, e2, e3, h1, h2⟩ := y
  exact ⟨T, x, y, e1, e2, e3, h1 xs q.1, h2 ys q.2⟩
end
/-! ranges with a step -/
section
variable {X : Cx}
def PRg3 (X : Cx) (e : Expr) (t : St → Hp → (Int → Int → Int → Hp → Prop) → Prop) : Prop :=
  ∀ (pins : List (Addr × Obj)) (s : Shared) (σ : St) (H : Hp) (Q : Int → Int → Int → Hp → Prop), Inv X pins σ H s → t σ H Q →
    wpAny (model X.prog X.w) X.A (eval e X.env) (fun x s' => ∃ r a b c t u v H', x = Value.ref r ∧ IsRange s'.heap r a b c t u v ∧ Inv X pins σ H' s' ∧ Q a b c H') X.xe s
def tRg3 (t : TA) (σ : St) (H : Hp) (Q : Int → Int → Int → Hp → Prop) : Prop := t σ H fun vs H1 => ∃ a b c, vs = [.int a, .int b, .int c] ∧ c ≠ 0 ∧ (-(2 ^ 62) ≤ a ∧ a < 2 ^ 62 ∧ -(2 ^ 62) ≤ b ∧ b < 2 ^ 62 ∧ c.natAbs < 1073741824) ∧ Q a b c H1
end
end L2

set_option Elab.async false
set_option maxRecDepth 100000
set_option maxHeartbeats 4000000
/-! comprehensions over ranges and over zip of two tuples, told by the place; what is tested and made only adds to the heap -/
namespace L2
open PySem PySem.Spec PyProof.Rows
/-- a comprehension's turns -/
abbrev LcGo (J : It) (g : TG) (tt : TT) (te : TE) (vs : List Nat) (σ : St) (H1 : Hp) (D : Addr) (Qd : Hp → Prop) : Prop :=
  ∃ W : Nat → Nat → Hp → Prop, (∃ m, W 0 m (upd H1 D (.lst []))) ∧ ∀ i m H, W i m H →
    (J.stop i H ∧ Qd H) ∨ (J.go i H ∧ ∃ Nx : Hp → Prop, (∀ H', Nx H' → ∃ m', m' < m ∧ W (i + 1) m' H') ∧ ∀ x H', J.yld i H x H' → g x (wipe σ vs) H' fun σ2 H2 => wipe σ2 vs = wipe σ vs ∧ tt σ2 H2 fun b H3 =>
      if b = true then te σ2 H3 fun y H4 => ∃ acc, H4 D = some (.lst acc) ∧ acc.length < sizeLine ∧ Nx (upd H4 D (.lst (acc ++ [y]))) else Nx H3)
theorem range_snoc (n : Nat) : List.range (n + 1) = List.range n ++ [n] := List.range_succ
section
variable {K : PySem.W.Frag} {σ : St} {H : Hp} {te : TE} {tt : TT} {vs : List Nat}
theorem lc_turn {f : Nat → V} {b : Nat → Bool} {D : Addr} {i n : Nat} {σ2 : St} {H' : Hp} (hD : H D = none) (hz : n < sizeLine) (hi : i < n) (hw : wipe σ2 vs = wipe σ vs) (e : Ext H H') (hl : H' D = some (.lst (((List.range i).filter b).map f)))
    (ht : ∀ Q : Bool → Hp → Prop, (∀ H'', Ext H' H'' → Q (b i) H'') → tt σ2 H' Q) (he : b i = true → ∀ H3, Ext H' H3 → ∀ Q : VK, (∀ H'', Ext H3 H'' → Q (f i) H'') → te σ2 H3 Q) :
    wipe σ2 vs = wipe σ vs ∧ tt σ2 H' fun b' H3 => if b' = true then te σ2 H3 fun y H4 => ∃ acc, H4 D = some (.lst acc) ∧ acc.length < sizeLine ∧ (Ext H (upd H4 D (.lst (acc ++ [y]))) ∧ upd H4 D (.lst (acc ++ [y])) D = some (.lst (((List.range (i + 1)).filter b).map f)))
      else (Ext H H3 ∧ H3 D = some (.lst (((List.range (i + 1)).filter b).map f))) := by
  refine ⟨hw, ht _ fun H3 e3 => ?_⟩
  have hl3 := e3 _ _ hl
  cases hb : b i with
  | true =>
    refine iteT (he hb H3 e3 _ fun H4 e4 => ⟨_, e4 _ _ hl3, ?_, ext_mut ((e.trans e3).trans e4) hD, ?_⟩)
    · rw [List.length_map]
      refine Nat.lt_of_le_of_lt (Nat.le_trans (List.length_filter_le _ _) ?_) hz
      rw [List.length_range]
      omega
    · rw [upd_same, range_snoc, List.filter_append, List.map_append]
      simp [hb]
  | false =>
    refine iteF ⟨e.trans e3, ?_⟩
    rw [hl3, range_snoc, List.filter_append, List.map_append]
    simp [hb]
theorem lc_rgR {Qd : Addr → Hp → Prop} {lo : Int} {n j : Nat} {f : Nat → V} {b : Nat → Bool} (hz : n < sizeLine) (hw : ∀ x, wipe ((wipe σ vs).set j (some x)) vs = wipe σ vs)
    (ht : ∀ i, i < n → ∀ H', Ext H H' → ∀ Q : Bool → Hp → Prop, (∀ H'', Ext H' H'' → Q (b i) H'') → tt ((wipe σ vs).set j (some (.int (lo + i)))) H' Q)
    (he : ∀ i, i < n → b i = true → ∀ H', Ext H H' → ∀ Q : VK, (∀ H'', Ext H' H'' → Q (f i) H'') → te ((wipe σ vs).set j (some (.int (lo + i)))) H' Q)
    (q : ∀ D H', H D = none → Ext H H' → H' D = some (.lst (((List.range n).filter b).map f)) → Qd D H') : ∀ D, H D = none → LcGo (Itr lo n) (gName j) tt te vs σ H D (Qd D) := fun D hD =>
  lc_range (fun i H' => Ext H H' ∧ H' D = some (.lst (((List.range i).filter b).map f))) ⟨Ext.upd hD, upd_same⟩ (fun i H' hi pv => lc_turn hD hz hi (hw _) pv.1 pv.2 (ht i hi H' pv.1) fun hb H3 e3 => he i hi hb H3 (pv.1.trans e3)) (fun H' pv => q D H' hD pv.1 pv.2)
theorem lc_zipR {Qd : Addr → Hp → Prop} {a b2 : Addr} {xs ys : List V} {n i1 i2 : Nat} {f : Nat → V} {b : Nat → Bool} (hx : SqT K H a xs) (hy : SqT K H b2 ys) (hn : n = min xs.length ys.length) (hz : n < sizeLine)
    (hw : ∀ x y, wipe (((wipe σ vs).set i1 (some x)).set i2 (some y)) vs = wipe σ vs)
    (ht : ∀ i x y, i < n → xs[i]? = some x → ys[i]? = some y → ∀ H', Ext H H' → ∀ Q : Bool → Hp → Prop, (∀ H'', Ext H' H'' → Q (b i) H'') → tt (((wipe σ vs).set i1 (some x)).set i2 (some y)) H' Q)
    (he : ∀ i x y, i < n → xs[i]? = some x → ys[i]? = some y → b i = true → ∀ H', Ext H H' → ∀ Q : VK, (∀ H'', Ext H' H'' → Q (f i) H'') → te (((wipe σ vs).set i1 (some x)).set i2 (some y)) H' Q)
    (q : ∀ D H', H D = none → Ext H H' → H' D = some (.lst (((List.range n).filter b).map f)) → Qd D H') : ∀ D, H D = none → LcGo (RZ.ItzT K a b2) (gTup K 2 (gCons (gName i1) (gCons (gName i2) gNil))) tt te vs σ H D (Qd D) := fun D hD => by
  refine lc_it (walk_zipT (K := K) (a := a) (b := b2) (xs := xs) (ys := ys) hn) (fun i H' => Ext H H' ∧ H' D = some (.lst (((List.range i).filter b).map f))) ⟨Ext.upd hD, upd_same⟩ (fun i H' _ pv => ⟨hx.ext pv.1, hy.ext pv.1⟩) (fun i v H' H'' hi pv y => ?_) (fun H' pv => q D H' hD pv.1 pv.2)
  obtain ⟨T, x, y, rfl, hT, rfl, h1, h2⟩ := y
  have eT := Ext.upd (o := .tup [x, y]) hT
  refine ⟨T, [x, y], rfl, SqT.of upd_same, rfl, x, [y], rfl, y, [], rfl, rfl, ?_⟩
  exact lc_turn hD hz hi (hw _ _) (pv.1.trans eT) (eT _ _ pv.2) (ht i x y hi h1 h2 _ (pv.1.trans eT)) fun hb H3 e3 => he i x y hi h1 h2 hb H3 ((pv.1.trans eT).trans e3)
end
end L2

set_option Elab.async false
set_option maxRecDepth 100000
set_option maxHeartbeats 4000000
/-! rules with the kit's own part named, for what stands within a comprehension -/
namespace L2
open PySem PySem.Spec PyProof.Rows
section
variable {X : Cx} {K : PySem.W.Frag}
theorem ix_tupK (h : X.K = K) : IxR X (rIxT K) := by
  subst h
  exact ix_tup
theorem ix_listK (h : X.K = K) : IxR X (rIxL K) := by
  subst h
  exact ix_list
theorem cr_maxK (h : X.K = K) (hc : X.calm = true) : CallR X (.builtin "max") (rMax K) := by
  subst h
  exact cr_max hc
theorem cr_minK (h : X.K = K) (hc : X.calm = true) : CallR X (.builtin "min") (rMin K) := by
  subst h
  exact cr_min hc
theorem pe_fldK {e : Expr} {ta : TE} {f : Str} {pos : Pos} (h : X.K = K) (he : PE X e ta) (hb : attributeBase e f X.env (eval e X.env) = eval e X.env := by rfl) : PE X (.Attribute e f pos) (tFld K ta f) := by
  subst h
  exact pe_fld he hb
def iListK (K : PySem.W.Frag) (tl : TE) : TI := fun σ H R => tl σ H fun x H1 => ∃ a, x = .ref a ∧ (∃ xs, SqL K H1 a xs) ∧ R (Itl K a) H1
theorem pi_listK {tg l : Expr} {tl : TE} (h : X.K = K) (hl : PE X l tl) : PI X tg l (iListK K tl) := by
  subst h
  exact pi_list hl
def rTupOfK (K : PySem.W.Frag) : List V → Hp → VK → Prop := fun xs H Q => ∃ p ys, xs = [.ref p] ∧ ((SqL K H p ys ∧ ∀ l, H l = none → Q (.ref l) (upd H l (.tup ys))) ∨ (SqT K H p ys ∧ Q (.ref p) H))
theorem call_tuple_ofK (h : X.K = K) : CallR X (.type "tuple") (rTupOfK K) := by
  subst h
  exact call_tuple_of
def rListOfK (K : PySem.W.Frag) : List V → Hp → VK → Prop := fun xs H Q => ∃ p ys, xs = [.ref p] ∧ (SqL K H p ys ∨ SqT K H p ys) ∧ ∀ l, H l = none → Q (.ref l) (upd H l (.lst ys))
theorem call_list_ofK (h : X.K = K) : CallR X (.type "list") (rListOfK K) := by
  subst h
  exact call_list_of
end
end L2

set_option Elab.async false
set_option maxRecDepth 100000
set_option maxHeartbeats 4000000
/-! list(zip(a, b)) of two lists -/
namespace PySem
theorem zip_no_len : typeLookup (Value.type "zip") (Str.ofString "__len__") = pure none := am_miss_of_fast (by decide +kernel)
theorem zip_no_hint : typeLookup (Value.type "zip") (Str.ofString "__length_hint__") = pure none := am_miss_of_fast (by decide +kernel)
/-- what has been given out -/
structure ZGiven (h : Heap) (lo : Addr) (acc : Array Value) (xs ys : Array Value) (i : Nat) (as : List Addr) : Prop where
  acc : acc.toList = as.map Value.ref
  len : as.length = i
  rise : List.Pairwise (· < ·) as
  above : ∀ a ∈ as, lo < a
  below : ∀ a ∈ as, a < h.objs.size
  pairs : ∀ (j : Nat) (a : Addr), as[j]? = some a → ∃ x y, xs[j]? = some x ∧ ys[j]? = some y ∧ IsPair h a x y
/-- how the zip stands -/
structure ZSt (h : Heap) (z TI TO i1 i2 l1 l2 : Addr) (xs ys : Array Value) (i : Nat) : Prop where
  first : i = 0 → ∃ a b, IsZip h z TI TO .none ∧ IsPair h TO a b
  later : 0 < i → ∃ T f x y, IsZipHeld h z TI TO T f ∧ IsPair h T x y
  ti : IsPair h TI (.ref i1) (.ref i2)
  it1 : h.IsListIter i1 l1 i
  it2 : h.IsListIter i2 l2 i
  li1 : h.IsList l1 xs
  li2 : h.IsList l2 ys
structure ZOff (S z TI TO i1 i2 l1 l2 : Addr) : Prop where
  z : S ≠ z
  ti : S ≠ TI
  to : S ≠ TO
  i1 : S ≠ i1
  i2 : S ≠ i2
  l1 : S ≠ l1
  l2 : S ≠ l2
section
variable {prog : Program} {w : World} {A : Around} {z TI TO i1 i2 l1 l2 S lo : Addr} {xs ys : Array Value} {i : Nat} {h h' : Heap}
theorem ZGiven.next {acc : Array Value} {as : List Addr} {T : Addr} {x y : Value} (g : ZGiven h lo acc xs ys i as) (hT : T = h.objs.size) (hlo : lo < T) (hsz : h'.objs.size = h.objs.size + 1) (hx : xs[i]? = some x) (hy : ys[i]? = some y) (hp : IsPair h' T x y)
    (hk : ∀ a ∈ as, ∀ x y, IsPair h a x y → IsPair h' a x y) : ZGiven h' lo (acc.push (.ref T)) xs ys (i + 1) (as ++ [T]) where
  acc := by rw [Array.toList_push, g.acc, List.map_append]; rfl
  len := by rw [List.length_append, g.len]; rfl
  rise := by
    rw [List.pairwise_append]
    refine ⟨g.rise, List.pairwise_singleton _ _, fun a ha b hb => ?_⟩
    rw [List.mem_singleton.mp hb, hT]
    exact g.below a ha
  above := fun a ha => by
    rcases List.mem_append.mp ha with ha | ha
    · exact g.above a ha
    · rw [List.mem_singleton.mp ha]
      exact hlo
  below := fun a ha => by
    rw [hsz]
    rcases List.mem_append.mp ha with ha | ha
    · exact Nat.lt_succ_of_lt (g.below a ha)
    · rw [List.mem_singleton.mp ha, hT]
      exact Nat.lt_succ_self _
  pairs := fun j a hj => by
    by_cases e : j < as.length
    · rw [List.getElem?_append_left e] at hj
      obtain ⟨x', y', h1, h2, h3⟩ := g.pairs j a hj
      exact ⟨x', y', h1, h2, hk a (List.mem_of_getElem? hj) _ _ h3⟩
    · have hl := (List.getElem?_eq_some_iff.mp hj).1
      rw [List.length_append] at hl
      have hl1 : [T].length = 1 := rfl
      have ej : j = as.length := by omega
      rw [List.getElem?_append_right (by omega), ej, Nat.sub_self] at hj
      cases hj
      rw [ej, g.len]
      exact ⟨x, y, hx, hy, hp⟩
theorem ZGiven.upd {acc : Array Value} {as : List Addr} {f : Obj → Obj} {oS : Obj} (g : ZGiven h lo acc xs ys i as) (hS : h.get? S = some oS) (hc : oS.cls = .type "list") : ZGiven (h.update S f) lo acc xs ys i as where
  acc := g.acc
  len := g.len
  rise := g.rise
  above := g.above
  below := fun a ha => by rw [Heap.size_update]; exact g.below a ha
  pairs := fun j a hj => by
    obtain ⟨x, y, h1, h2, h3⟩ := g.pairs j a hj
    refine ⟨x, y, h1, h2, ?_⟩
    have ne : S ≠ a := fun e => by
      subst e
      have h4 : h.get? S = some _ := h3
      rw [hS] at h4
      cases h4
      exact absurd (show Value.type "tuple" = Value.type "list" from hc) (by decide)
    show (h.update S f).get? a = _
    rw [Heap.get?_update_other h f ne]
    exact h3
theorem ZSt.upd {f : Obj → Obj} (s : ZSt h z TI TO i1 i2 l1 l2 xs ys i) (o : ZOff S z TI TO i1 i2 l1 l2) {oS : Obj} (hS : h.get? S = some oS) (hc : oS.cls = .type "list") : ZSt (h.update S f) z TI TO i1 i2 l1 l2 xs ys i where
  first := fun e => by
    obtain ⟨a, b, h1, h2⟩ := s.first e
    exact ⟨a, b, (Heap.get?_update_other h f o.z).trans h1, (Heap.get?_update_other h f o.to).trans h2⟩
  later := fun e => by
    obtain ⟨T, b, x, y, h1, h2⟩ := s.later e
    have ne : S ≠ T := fun e => by
      subst e
      have h4 : h.get? S = some _ := h2
      rw [hS] at h4
      cases h4
      exact absurd (show Value.type "tuple" = Value.type "list" from hc) (by decide)
    exact ⟨T, b, x, y, (Heap.get?_update_other h f o.z).trans h1, (Heap.get?_update_other h f ne).trans h2⟩
  ti := (Heap.get?_update_other h f o.ti).trans s.ti
  it1 := by
    obtain ⟨q, h1, h2⟩ := s.it1
    exact ⟨q, (Heap.get?_update_other h f o.i1).trans h1, h2⟩
  it2 := by
    obtain ⟨q, h1, h2⟩ := s.it2
    exact ⟨q, (Heap.get?_update_other h f o.i2).trans h1, h2⟩
  li1 := by
    obtain ⟨q, h1, h2⟩ := s.li1
    exact ⟨q, (Heap.get?_update_other h f o.l1).trans h1, h2⟩
  li2 := by
    obtain ⟨q, h1, h2⟩ := s.li2
    exact ⟨q, (Heap.get?_update_other h f o.l2).trans h1, h2⟩
theorem zip_loop (hh : A.in1.handled = none) (D : ZipApart z TI TO i1 i2 l1 l2) (o : ZOff S z TI TO i1 i2 l1 l2) (res : Value) {n : Nat} (hn : n = min xs.size ys.size) (hz : n + 1 ≤ sizeLine) {g : Array GenState} {d : _} {tk : Nat} {os : _} {R : Result → Shared → Prop} :
    ∀ (k i : Nat) (h : Heap) (acc : Array Value) (c : Nat) (as : List Addr), n - i = k → i ≤ n → ZSt h z TI TO i1 i2 l1 l2 xs ys i → h.get? S = some { cls := .type "list", data := .seq acc c } → lo < h.objs.size → ZGiven h lo acc xs ys i as →
      (∀ (h' : Heap) (acc' : Array Value) (c' : Nat) (as' : List Addr), (∀ b ob, b ≠ S → b ≠ z → b ≠ TO → b ≠ i1 → b ≠ i2 → h.get? b = some ob → h'.get? b = some ob) → h'.get? S = some { cls := .type "list", data := .seq acc' c' } → ZGiven h' lo acc' xs ys n as' → R (.ok (.ret res)) ⟨h', g, d, tk, os⟩) →
      codeAny (model prog w) A (.builtin "list.extend.loop" ⟨[.ref S, .ref z, res], []⟩) R ⟨h, g, d, tk, os⟩ := by
  intro k
  induction k with
  | zero =>
    intro i h acc c as hk hi st hS hlo gv hR
    have ei : i = n := by omega
    subst ei
    refine codeAny_builtin F.entry_extend_loop ?_
    rw [Around.under_plainId F.plain_extend_loop]
    refine wpAny_bind ?_
    have hend : xs[i]? = none ∨ ys[i]? = none := by
      rcases Nat.le_total xs.size ys.size with e | e
      · left
        exact Array.getElem?_eq_none (by omega)
      · right
        exact Array.getElem?_eq_none (by omega)
    by_cases h0 : i = 0
    · obtain ⟨a, b, hz1, hto⟩ := st.first h0
      refine wpAny_pyNext_zip_end hh D hz1 st.ti hto st.it1 st.it2 st.li1 st.li2 hend fun h' hk' => ?_
      refine wpAny_pure (hR h' acc c as (fun b ob b1 b2 b3 b4 b5 e => hk' b ob b2 b3 b4 b5 e) (hk' S _ o.z o.to o.i1 o.i2 hS) ?_)
      have has : as = [] := List.eq_nil_of_length_eq_zero (gv.len.trans h0)
      subst has
      exact ⟨gv.acc, gv.len, gv.rise, gv.above, (fun a ha => by cases ha), fun j a hj => by cases hj⟩
    · obtain ⟨T, f, tx, ty, hz1, hT⟩ := st.later (by omega)
      refine wpAny_pyNext_zip_end_held hh D hz1 hT st.ti st.it1 st.it2 st.li1 st.li2 hend fun h' hk' => ?_
      refine wpAny_pure (hR h' acc c as (fun b ob b1 b2 b3 b4 b5 e => hk' b ob b2 b4 b5 e) (hk' S _ o.z o.i1 o.i2 hS) ?_)
      have keep : ∀ a ∈ as, ∀ x y, IsPair h a x y → IsPair h' a x y := fun a ha x y hp => by
        refine hk' a _ (fun e => ?_) (fun e => ?_) (fun e => ?_) hp
        · subst e
          have q : h.get? a = some _ := hp
          rw [show h.get? a = some _ from hz1] at q
          injection q with q
          injection q with q
          exact absurd q (by decide)
        · subst e
          obtain ⟨ob, q1, q2, _⟩ := st.it1
          rw [show h.get? a = some _ from hp] at q1
          cases q1
          exact absurd (show Value.type "tuple" = Value.type "list_iterator" from q2) (by decide)
        · subst e
          obtain ⟨ob, q1, q2, _⟩ := st.it2
          rw [show h.get? a = some _ from hp] at q1
          cases q1
          exact absurd (show Value.type "tuple" = Value.type "list_iterator" from q2) (by decide)
      refine ⟨gv.acc, gv.len, gv.rise, gv.above, fun a ha => ?_, fun j a hj => ?_⟩
      · obtain ⟨j, hj⟩ := List.getElem?_of_mem ha
        obtain ⟨x, y, _, _, hp⟩ := gv.pairs j a hj
        exact Heap.lt_size (keep a ha _ _ hp)
      · obtain ⟨x, y, h1, h2, hp⟩ := gv.pairs j a hj
        exact ⟨x, y, h1, h2, keep a (List.mem_of_getElem? hj) _ _ hp⟩
  | succ k ih =>
    intro i h acc c as hk hi st hS hlo gv hR
    refine codeAny_builtin F.entry_extend_loop ?_
    rw [Around.under_plainId F.plain_extend_loop]
    refine wpAny_bind ?_
    obtain ⟨x, hx⟩ : ∃ x, xs[i]? = some x := ⟨_, Array.getElem?_eq_getElem (by omega)⟩
    obtain ⟨y, hy⟩ : ∃ y, ys[i]? = some y := ⟨_, Array.getElem?_eq_getElem (by omega)⟩
    have step : ∀ h' : Heap, ZSt h' z TI TO i1 i2 l1 l2 xs ys (i + 1) → IsPair h' h.objs.size x y → h'.objs.size = h.objs.size + 1 → (∀ b ob, b ≠ z → b ≠ TO → b ≠ i1 → b ≠ i2 → h.get? b = some ob → h'.get? b = some ob) → (∀ a ∈ as, ∀ x y, IsPair h a x y → IsPair h' a x y) →
        wpAny (model prog w) A.in1 (do
          Builtin.List.listUpdate (Value.ref S) fun q => q.push (.ref h.objs.size)
          again (Code.builtin "list.extend.loop" ⟨[.ref S, .ref z, res], []⟩)) (fun fin s' => match fin with
          | Fin.done f => R (Except.ok f) s'
          | Fin.again c' => c'.quiet = true ∧ codeAny (model prog w) A c' R s') (fun e s' => R (Except.error e) s') ⟨h', g, d, tk, os⟩ := fun h' st' hp hsz hk' hkp => by
      have hS' : h'.get? S = some { cls := .type "list", data := .seq acc c } := hk' S _ o.z o.to o.i1 o.i2 hS
      have hal : acc.size = i := by
        have e1 := congrArg List.length gv.acc
        rw [List.length_map, gv.len, Array.length_toList] at e1
        exact e1
      refine wpAny_bind (wpAny_updateSeq hS' rfl (wpAny_pure ⟨plainId_quiet F.plain_extend_loop _, ?_⟩) (by omega) (by rw [Array.size_push]; omega))
      have gv' := gv.next (h' := h') rfl hlo hsz hx hy hp hkp
      refine ih (i + 1) (h'.update S (Obj.mapSeq fun q => q.push (.ref h.objs.size))) (acc.push (.ref h.objs.size)) _ (as ++ [h.objs.size]) (by omega) (by omega) (st'.upd o hS' rfl) (Heap.get?_update_self (Obj.mapSeq fun q => q.push (.ref h.objs.size)) hS' rfl) ?_ (gv'.upd hS' rfl) fun h2 acc2 c2 as2 e1 e2 e3 => ?_
      · rw [Heap.size_update, hsz]
        exact Nat.lt_succ_of_lt hlo
      · exact hR h2 acc2 c2 as2 (fun b ob b1 b2 b3 b4 b5 e => e1 b ob b1 b2 b3 b4 b5 ((Heap.get?_update_other h' _ (Ne.symm b1)).trans (hk' b ob b2 b3 b4 b5 e))) e2 e3
    by_cases h0 : i = 0
    · obtain ⟨a, b, hz1, hto⟩ := st.first h0
      have has : as = [] := List.eq_nil_of_length_eq_zero (gv.len.trans h0)
      refine wpAny_pyNext_zip_item D hz1 st.ti hto st.it1 st.it2 st.li1 st.li2 hx hy fun h' a1 a2 a3 a4 a5 a6 a7 => step h' ⟨fun e => absurd e (Nat.succ_ne_zero _), fun _ => ⟨h.objs.size, false, x, y, a1, a5⟩, a7 TI _ D.TIz D.TITO D.TIi1 D.TIi2 st.ti, a3, a4, ?_, ?_⟩ a5 a6 a7 fun a ha => by rw [has] at ha; cases ha
      · obtain ⟨q, h1, h2⟩ := st.li1
        exact ⟨q, a7 l1 q D.l1z D.l1TO D.l1i1 D.l1i2 h1, h2⟩
      · obtain ⟨q, h1, h2⟩ := st.li2
        exact ⟨q, a7 l2 q D.l2z D.l2TO D.l2i1 D.l2i2 h1, h2⟩
    · obtain ⟨T, f, tx, ty, hz1, hT⟩ := st.later (by omega)
      have kp : ∀ (h' : Heap), (∀ b ob, b ≠ z → b ≠ i1 → b ≠ i2 → h.get? b = some ob → h'.get? b = some ob) → ∀ a x y, IsPair h a x y → IsPair h' a x y := fun h' a7 a x y hp => by
        refine a7 a _ (fun e => ?_) (fun e => ?_) (fun e => ?_) hp
        · subst e
          have q : h.get? a = some _ := hp
          rw [show h.get? a = some _ from hz1] at q
          injection q with q
          injection q with q
          exact absurd q (by decide)
        · subst e
          obtain ⟨ob, q1, q2, _⟩ := st.it1
          rw [show h.get? a = some _ from hp] at q1
          cases q1
          exact absurd (show Value.type "tuple" = Value.type "list_iterator" from q2) (by decide)
        · subst e
          obtain ⟨ob, q1, q2, _⟩ := st.it2
          rw [show h.get? a = some _ from hp] at q1
          cases q1
          exact absurd (show Value.type "tuple" = Value.type "list_iterator" from q2) (by decide)
      refine wpAny_pyNext_zip_item_held D hz1 hT st.ti st.it1 st.it2 st.li1 st.li2 hx hy fun h' a1 a3 a4 a5 a6 a7 => step h' ⟨fun e => absurd e (Nat.succ_ne_zero _), fun _ => ⟨T, true, tx, ty, a1, kp h' a7 T tx ty hT⟩, a7 TI _ D.TIz D.TIi1 D.TIi2 st.ti, a3, a4, ?_, ?_⟩ a5 a6 (fun b ob b1 b2 b3 b4 e => a7 b ob b1 b3 b4 e) fun a ha x y hp => kp h' a7 a x y hp
      · obtain ⟨q, h1, h2⟩ := st.li1
        exact ⟨q, a7 l1 q D.l1z D.l1i1 D.l1i2 h1, h2⟩
      · obtain ⟨q, h1, h2⟩ := st.li2
        exact ⟨q, a7 l2 q D.l2z D.l2i1 D.l2i2 h1, h2⟩
theorem list_init_zip (hh : A.in1.handled = none) (D : ZipApart z TI TO i1 i2 l1 l2) (o : ZOff S z TI TO i1 i2 l1 l2) {n : Nat} (hn : n = min xs.size ys.size) (hz : n + 1 ≤ sizeLine) {g : Array GenState} {d : _} {tk : Nat} {os : _} {R : Result → Shared → Prop}
    (st : ZSt h z TI TO i1 i2 l1 l2 xs ys 0) (hS : h.get? S = some { cls := .type "list", data := .seq #[] }) (hlo : lo < h.objs.size)
    (hR : ∀ (h' : Heap) (acc' : Array Value) (c' : Nat) (as' : List Addr), (∀ b ob, b ≠ S → b ≠ z → b ≠ TO → b ≠ i1 → b ≠ i2 → h.get? b = some ob → h'.get? b = some ob) → h'.get? S = some { cls := .type "list", data := .seq acc' c' } → ZGiven h' lo acc' xs ys n as' → R (.ok (.ret .none)) ⟨h', g, d, tk, os⟩) :
    wpAny (model prog w) A.in1 (Builtin.«list.__init__» ⟨[.ref S, .ref z], []⟩) (fun fin s' => match fin with
      | Fin.done f => R (Except.ok f) s'
      | Fin.again c' => c'.quiet = true ∧ codeAny (model prog w) A c' R s') (fun e s' => R (Except.error e) s') ⟨h, g, d, tk, os⟩ := by
  refine wpAny_bind ?_
  unfold Builtin.List.listItems
  refine wpAny_bind (wpAny_seqItems hS rfl (wpAny_pure ?_))
  refine wpAny_bind (wpAny_updateSeq hS rfl ?_)
  refine wpAny_bind (wpAny_letGo ?_)
  obtain ⟨a0, b0, hz0, hto0⟩ := st.first rfl
  have hS1 := Heap.get?_update_self (h := h) (Obj.mapSeq fun _ => #[]) hS rfl
  have st1 := st.upd (f := Obj.mapSeq fun _ => #[]) o hS rfl
  have sz1 : (h.update S (Obj.mapSeq fun _ => #[])).objs.size = h.objs.size := Heap.size_update _ _ _
  have off1 : ∀ b ob, b ≠ S → h.get? b = some ob → (h.update S (Obj.mapSeq fun _ => #[])).get? b = some ob := fun b ob hb e => (Heap.get?_update_other h _ (Ne.symm hb)).trans e
  generalize h.update S (Obj.mapSeq fun _ => #[]) = h1 at hS1 st1 sz1 off1 ⊢
  have hz1 : h1.get? z = some _ := off1 z _ (Ne.symm o.z) hz0
  have hT : ∀ (h2 : Heap) (g2 : _) , h2.get? z = some { cls := Value.type "zip", data := Data.fields #[Value.none, Value.bool false, Value.bool false, Value.ref TI, Value.ref TO] } → (Shared.mk h2 g2 d tk os).TypeIs (.ref z) "zip" := fun h2 g2 e => ⟨_, e, rfl⟩
  refine wpAny_bind (wpAny_typeOf (hT h1 g hz1) ?_)
  have e1 : (Builtin.List.listSameRef (Value.ref S) (Value.ref z) || Value.type "zip" == Value.type "list" || Value.type "zip" == Value.type "tuple") = false := by
    have : Builtin.List.listSameRef (Value.ref S) (Value.ref z) = false := beq_eq_false_iff_ne.mpr o.z
    rw [this]
    rfl
  rw [e1, if_neg (by decide)]
  refine wpAny_bind (wpAny_pyIter_zip hz1 ?_)
  refine wpAny_bind (wpAny_holding ?_)
  refine wpAny_bind (wpAny_specialOf (hT h1 g hz1) zip_no_len ?_)
  refine wpAny_bind (wpAny_specialOf (hT h1 g hz1) zip_no_hint (wpAny_pure ?_))
  rw [if_pos (by rfl)]
  refine wpAny_bind (wpAny_rule ?_)
  refine wpAny_bind ?_
  unfold Builtin.List.listTouch
  refine wpAny_bind (wpAny_updateSeq hS1 rfl ?_)
  have hS2 := Heap.get?_update_self (h := h1) (Obj.mapSeq fun q => q.push Value.none) hS1 rfl
  have st2 := st1.upd (f := Obj.mapSeq fun q => q.push Value.none) o hS1 rfl
  have sz2 : (h1.update S (Obj.mapSeq fun q => q.push Value.none)).objs.size = h1.objs.size := Heap.size_update _ _ _
  have off2 : ∀ b ob, b ≠ S → h1.get? b = some ob → (h1.update S (Obj.mapSeq fun q => q.push Value.none)).get? b = some ob := fun b ob hb e => (Heap.get?_update_other h1 _ (Ne.symm hb)).trans e
  generalize h1.update S (Obj.mapSeq fun q => q.push Value.none) = h2 at hS2 st2 sz2 off2 ⊢
  refine wpAny_updateSeq hS2 rfl ?_
  have hS3 := Heap.get?_update_self (h := h2) (Obj.mapSeq fun q => q.pop) hS2 rfl
  have st3 := st2.upd (f := Obj.mapSeq fun q => q.pop) o hS2 rfl
  have sz3 : (h2.update S (Obj.mapSeq fun q => q.pop)).objs.size = h2.objs.size := Heap.size_update _ _ _
  have off3 : ∀ b ob, b ≠ S → h2.get? b = some ob → (h2.update S (Obj.mapSeq fun q => q.pop)).get? b = some ob := fun b ob hb e => (Heap.get?_update_other h2 _ (Ne.symm hb)).trans e
  refine wpAny_pure ⟨plainId_quiet F.plain_extend_loop _, ?_⟩
  refine zip_loop (lo := lo) hh D o .none hn hz n 0 (h2.update S (Obj.mapSeq fun q => q.pop)) #[] _ [] (Nat.sub_zero n) (Nat.zero_le n) st3 hS3 (by rw [sz3, sz2, sz1]; exact hlo) ⟨rfl, rfl, .nil, (fun _ h => nomatch h), (fun _ h => nomatch h), (fun _ _ h => by cases h)⟩ fun h' acc' c' as' k1 k2 k3 => ?_
  exact hR h' acc' c' as' (fun b ob b1 b2 b3 b4 b5 e => k1 b ob b1 b2 b3 b4 b5 (off3 b ob b1 (off2 b ob b1 (off1 b ob b1 e)))) k2 k3
/-- list(z), z a zip of two lists as it was made -/
theorem call_list_zip {E : Value → Shared → Prop} {Q : Value → Shared → Prop} (hh : A.in1.in1.handled = none) (D : ZipApart z TI TO i1 i2 l1 l2) {n : Nat} (hn : n = min xs.size ys.size) (hz : n + 1 ≤ sizeLine) {s : Shared} (st : ZSt s.heap z TI TO i1 i2 l1 l2 xs ys 0)
    (hQ : ∀ (h' : Heap) (acc' : Array Value) (c' : Nat) (as' : List Addr), (∀ b ob, b ≠ z → b ≠ TO → b ≠ i1 → b ≠ i2 → s.heap.get? b = some ob → h'.get? b = some ob) → h'.get? s.heap.objs.size = some { cls := .type "list", data := .seq acc' c' } → ZGiven h' s.heap.objs.size acc' xs ys n as' → Q (.ref s.heap.objs.size) { s with heap := h' }) :
    wpAny (model prog w) A (call (.type "list") [.ref z]) Q E s := by
  obtain ⟨h, g, d, tk, os⟩ := s
  obtain ⟨a0, b0, hz0, hto0⟩ := st.first rfl
  refine callType_codes F.called_list (F.typeCall_list_1 _) F.entry_list_init (code_list_new (.ref z) (Q₁ := fun v s' => v = .ref h.objs.size ∧ s' = ⟨h.push { cls := .type "list", data := .seq #[] }, g, d, tk, os⟩) ⟨rfl, rfl⟩) fun obj s₁ h₁ => ?_
  obtain ⟨rfl, rfl⟩ := h₁
  have hS := Heap.get?_push_size h (o := { cls := .type "list", data := .seq #[] }) rfl
  have kp : ∀ b ob, h.get? b = some ob → (h.push { cls := Value.type "list", data := Data.seq #[] }).get? b = some ob := fun b ob e => Heap.get?_push_of_some _ e
  have lt : ∀ {b : Addr} {ob : Obj}, h.get? b = some ob → h.objs.size ≠ b := fun e => Nat.ne_of_gt (Heap.lt_size e)
  have o : ZOff h.objs.size z TI TO i1 i2 l1 l2 := ⟨lt hz0, lt st.ti, lt hto0, (by obtain ⟨_, q, _⟩ := st.it1; exact lt q), (by obtain ⟨_, q, _⟩ := st.it2; exact lt q), (by obtain ⟨_, q, _⟩ := st.li1; exact lt q), (by obtain ⟨_, q, _⟩ := st.li2; exact lt q)⟩
  have st' : ZSt (h.push { cls := Value.type "list", data := Data.seq #[] }) z TI TO i1 i2 l1 l2 xs ys 0 := ⟨fun _ => ⟨a0, b0, kp _ _ hz0, kp _ _ hto0⟩, fun e => absurd e (Nat.lt_irrefl _), kp _ _ st.ti, (by obtain ⟨q, q1, q2⟩ := st.it1; exact ⟨q, kp _ _ q1, q2⟩), (by obtain ⟨q, q1, q2⟩ := st.it2; exact ⟨q, kp _ _ q1, q2⟩), (by obtain ⟨q, q1, q2⟩ := st.li1; exact ⟨q, kp _ _ q1, q2⟩), (by obtain ⟨q, q1, q2⟩ := st.li2; exact ⟨q, kp _ _ q1, q2⟩)⟩
  refine ⟨⟨_, hS, rfl⟩, F.args_list_init_2 _ _, list_init_zip (lo := h.objs.size) hh D o hn hz st' hS (by rw [Heap.size_push]; exact Nat.lt_succ_self _) fun h' acc' c' as' k1 k2 k3 => ⟨rfl, ?_⟩⟩
  exact hQ h' acc' c' as' (fun b ob b2 b3 b4 b5 e => k1 b ob (Ne.symm (lt e)) b2 b3 b4 b5 (kp b ob e)) k2 k3
end
end PySem

set_option Elab.async false
set_option maxRecDepth 100000
set_option maxHeartbeats 4000000
/-! tuple(range(a, b, c)), list(range(a, b, c)), list(zip(x, y)) as expressions -/
namespace L2
open PySem PySem.Spec PyProof.Rows
section
variable {X : Cx}
theorem vals3 {x y z : V} {us : List Value} (r : Vals [x, y, z] us) : ∃ u v w, us = [u, v, w] ∧ RelV x u ∧ RelV y v ∧ RelV z w := by
  cases r with
  | cons h1 r =>
    obtain ⟨v, w, rfl, h2, h3⟩ := vals2 r
    exact ⟨_, v, w, rfl, h1, h2, h3⟩
theorem pylong_no {x c : Int} (h : c.natAbs < 1073741824) : Builtin.divisionGoesByPylong x c = false := by
  unfold Builtin.divisionGoesByPylong
  have hd : ¬ (if (c == 0) = true then 0 else c.natAbs.log2 / 30 + 1) > 300 := by
    split
    · omega
    · rename_i h0
      have hc : c.natAbs ≠ 0 := fun e => h0 (by rw [Int.natAbs_eq_zero.mp e]; rfl)
      have : c.natAbs.log2 < 30 := (Nat.log2_lt hc).mpr (by simpa using h)
      omega
  dsimp only
  rw [decide_eq_false hd]
  rfl
theorem prg_3 {e : Expr} {es : List Expr} {ta : TA} {p pos : Pos} (hg : Gl X "range") (hm : X.mg "range" = none) (ha : PA X (e :: es) ta) (he : starEach (e :: es) X.env = (false, eval e X.env) :: starEach es X.env := by rfl) (hpl : (backTo pos (starEach es X.env)).any (·.1) = false := by rfl) :
    PRg3 X (.Call (.Name "range" p) (e :: es) [] pos) (tRg3 ta) := by
  intro pins s σ H Q I h
  refine PyProof.Rows.Call_ (ld_blt I hg hm (u := .type "range") (by rfl) (PyProof.Rows.callWith_type1 (thn (ha.run pos pins s σ H _ I h) fun us s1 ⟨vs, H1, I1, r1, q1⟩ => ?_) he hpl)) rfl
  obtain ⟨a, b, c, rfl, hc, ⟨h1, h2, h3, h4, h5⟩, q⟩ := q1
  obtain ⟨u, v, w, rfl, ⟨t1, rfl⟩, ⟨t2, rfl⟩, ⟨t3, rfl⟩⟩ := vals3 r1
  refine call_range_3 hc ⟨s1.heap.objs.size, a, b, c, t1, t2, t3, H1, rfl, Heap.get?_push_size _ rfl, ?_, q⟩ (.inl (pylong_no h5))
  exact I1.kept (t' := s1.toks) fun b o e => Heap.get?_push_of_some _ e
def rgC (a c : Int) (n : Nat) : List V := (List.range n).map fun (i : Nat) => .int (a + (i : Int) * c)
theorem vals_rgC {a c : Int} {n : Nat} {acc : Array Value} (h : ItemsOf (fun i v => ∃ t, v = Value.int (a + (i : Int) * c) t) acc n) : Vals (rgC a c n) acc.toList := by
  refine vals_of_at ?_ fun j x u hx hu => ?_
  · show (rgC a c n).length = acc.toList.length
    rw [show acc.toList.length = acc.size from rfl, h.1]
    simp [rgC]
  · have hj : j < n := by
      have := (List.getElem?_eq_some_iff.mp hx).1
      simpa [rgC] using this
    obtain ⟨t, rfl⟩ := h.2 j u (by rw [← Array.getElem?_toList]; exact hu)
    unfold rgC at hx
    rw [List.getElem?_map, List.getElem?_range hj] at hx
    cases hx
    exact ⟨t, rfl⟩
def tTupRg3 (te : St → Hp → (Int → Int → Int → Hp → Prop) → Prop) : TE := fun σ H Q => te σ H fun a b c H1 => ∃ n, RgC a b c n ∧ n ≤ 2 ^ 24 ∧ ∀ q, H1 q = none → Q (.ref q) (upd H1 q (.tup (rgC a c n)))
def tLstRg3 (te : St → Hp → (Int → Int → Int → Hp → Prop) → Prop) : TE := fun σ H Q => te σ H fun a b c H1 => ∃ n, RgC a b c n ∧ n ≤ 2 ^ 24 ∧ ∀ q, H1 q = none → Q (.ref q) (upd H1 q (.lst (rgC a c n)))
theorem pe_tupRg3 {e : Expr} {te : St → Hp → (Int → Int → Int → Hp → Prop) → Prop} {p pos : Pos} (hc : X.calm = true) (hg : Gl X "tuple") (hm : X.mg "tuple" = none) (he : PRg3 X e te) (hs : starEach [e] X.env = (false, eval e X.env) :: starEach [] X.env := by rfl) :
    PE X (.Call (.Name "tuple" p) [e] [] pos) (tTupRg3 te) := by
  refine ⟨fun pins s σ H Q I h => ?_⟩
  refine PyProof.Rows.Call_ (ld_blt I hg hm (u := .type "tuple") (by rfl) (PyProof.Rows.callWith_type1 ?_ hs rfl)) rfl
  rw [hs]
  refine Calls.spliced_cons (thn (he pins s σ H _ I h) fun x s1 ⟨r, a, b, c, t, u, v, H1, ex, hr, I1, n, hn, hz, q⟩ => Calls.spliced_nil ?_)
  subst ex
  obtain ⟨_, _, h3, h4⟩ := hn
  refine call_tuple_range (I1.ok.hd hc) hr h3 h4 hz fun h' tk acc hk hacc => ?_
  have I2 := I1.kept (t' := tk) hk
  have hzl : (rgC a c n).length ≤ sizeLine := by
    rw [show (rgC a c n).length = n by simp [rgC]]
    exact Nat.le_trans hz (by decide)
  refine ⟨.ref h'.objs.size, upd H1 h'.objs.size (.tup (rgC a c n)), I2.laid (t' := tk) (fun b o e => Heap.get?_push_of_some _ e) (Nat.le_refl _) ⟨hzl, acc.toList, vals_rgC hacc, ⟨_, Heap.get?_push_size _ rfl, rfl, _, rfl⟩⟩, rfl, q _ (I2.hok.fresh (Nat.le_refl _))⟩
theorem pe_listRg3 {e : Expr} {te : St → Hp → (Int → Int → Int → Hp → Prop) → Prop} {p pos : Pos} (hc : X.calm = true) (hg : Gl X "list") (hm : X.mg "list" = none) (he : PRg3 X e te) (hs : starEach [e] X.env = (false, eval e X.env) :: starEach [] X.env := by rfl) :
    PE X (.Call (.Name "list" p) [e] [] pos) (tLstRg3 te) := by
  refine ⟨fun pins s σ H Q I h => ?_⟩
  refine PyProof.Rows.Call_ (ld_blt I hg hm (u := .type "list") (by rfl) (PyProof.Rows.callWith_type1 ?_ hs rfl)) rfl
  rw [hs]
  refine Calls.spliced_cons (thn (he pins s σ H _ I h) fun x s1 ⟨r, a, b, c, t, u, v, H1, ex, hr, I1, n, hn, hz, q⟩ => Calls.spliced_nil ?_)
  subst ex
  obtain ⟨_, _, h3, h4⟩ := hn
  refine call_list_range (I1.ok.hd hc) hr h3 h4 hz fun h' tk acc c' hk hS hacc => ?_
  have hzl : (rgC a c n).length ≤ sizeLine := by
    rw [show (rgC a c n).length = n by simp [rgC]]
    exact Nat.le_trans hz (by decide)
  refine ⟨.ref s1.heap.objs.size, upd H1 s1.heap.objs.size (.lst (rgC a c n)), I1.laid (t' := tk) hk (Nat.le_refl _) ⟨hzl, acc.toList, c', vals_rgC hacc, hS⟩, rfl, q _ (I1.hok.fresh (Nat.le_refl _))⟩
/-! list(zip(x, y)), two lists of ints -/
theorem zipApart {n la lb : Nat} (h1 : la < n) (h2 : lb < n) : ZipApart (n + 4) (n + 2) (n + 3) n (n + 1) la lb where
  TIz := show (n + 2 : Nat) ≠ n + 4 by omega
  TOz := show (n + 3 : Nat) ≠ n + 4 by omega
  i1z := show (n : Nat) ≠ n + 4 by omega
  i2z := show (n + 1 : Nat) ≠ n + 4 by omega
  TITO := show (n + 2 : Nat) ≠ n + 3 by omega
  TIi1 := show (n + 2 : Nat) ≠ n by omega
  TIi2 := show (n + 2 : Nat) ≠ n + 1 by omega
  TOi1 := show (n + 3 : Nat) ≠ n by omega
  TOi2 := show (n + 3 : Nat) ≠ n + 1 by omega
  i12 := show (n : Nat) ≠ n + 1 by omega
  l1z := show (la : Nat) ≠ n + 4 by omega
  l1TO := show (la : Nat) ≠ n + 3 by omega
  l1i1 := show (la : Nat) ≠ n by omega
  l1i2 := show (la : Nat) ≠ n + 1 by omega
  l2z := show (lb : Nat) ≠ n + 4 by omega
  l2TO := show (lb : Nat) ≠ n + 3 by omega
  l2i1 := show (lb : Nat) ≠ n by omega
  l2i2 := show (lb : Nat) ≠ n + 1 by omega
theorem lt_off {n b : Nat} (h : b < n) : b ≠ n + 4 ∧ b ≠ n + 3 ∧ b ≠ n ∧ b ≠ n + 1 := ⟨by omega, by omega, by omega, by omega⟩
/-- the same heap with k places more, all of them free -/
theorem padded (h : Heap) : ∀ k : Nat, ∃ h2 : Heap, h2.objs.size = h.objs.size + k ∧ (∀ b o, h.get? b = some o → h2.get? b = some o) ∧ ∀ b o, h2.get? b = some o → h.get? b = some o
  | 0 => ⟨h, rfl, fun _ _ e => e, fun _ _ e => e⟩
  | k + 1 => by
    obtain ⟨h2, e1, e2, e3⟩ := padded h k
    refine ⟨h2.push { cls := .none, data := .freed }, by rw [Heap.size_push, e1]; rfl, fun b o e => Heap.get?_push_of_some _ (e2 b o e), fun b o e => e3 b o ?_⟩
    obtain ⟨objs, life⟩ := h2
    unfold Heap.push Heap.get? at e
    dsimp only at e
    rw [Array.getElem?_push] at e
    by_cases hb : b = objs.size
    · rw [if_pos hb] at e
      cases e
    · rw [if_neg hb] at e
      exact e
theorem paired_at {α β : Type} {R : α → β → Prop} : ∀ {as : List α} {qs : List β} {j : Nat} {t : α}, Paired R as qs → as[j]? = some t → ∃ q, qs[j]? = some q ∧ R t q
  | _ :: _, _ :: _, 0, _, .cons h _, e => by
    cases e
    exact ⟨_, rfl, h⟩
  | _ :: _, _ :: _, j + 1, _, .cons _ h, e => by
    obtain ⟨q, h1, h2⟩ := paired_at (j := j) h (by simpa using e)
    exact ⟨q, by simpa using h1, h2⟩
theorem kv_zip : ∀ (xs : List Int) (ys : List Int) (us : List Value), Vals (ys.map V.int) us → KV ((xs.zip ys).map fun p => ((Sum.inl p.1 : Key), V.int p.2)) ((xs.zip us).map fun p => ((Sum.inl p.1 : Key), p.2))
  | [], _, _, _ => .nil
  | _ :: _, [], [], _ => .nil
  | x :: xs, y :: ys, u :: us, .cons h1 h2 => .cons ⟨rfl, h1⟩ (kv_zip xs ys us h2)
def tLstZip (K : PySem.W.Frag) (t : TA) : TE := fun σ H Q => t σ H fun vs H1 => ∃ (la lb : Addr) (xs ys : List Int), vs = [.ref la, .ref lb] ∧ SqL K H1 la (xs.map V.int) ∧ SqL K H1 lb (ys.map V.int) ∧ xs.length = ys.length ∧ xs.length ≤ 1000000 ∧
  ∀ (D : Addr) (as : List Addr) (H2 : Hp), Ext H1 H2 → H2 D = some (.lst (as.map V.ref)) → as.length = xs.length → (∀ (j : Nat) (t : Addr), as[j]? = some t → ∃ x y, xs[j]? = some x ∧ ys[j]? = some y ∧ H2 t = some (.tup [.int x, .int y])) → Q (.ref D) H2
theorem pe_listZip {a : Expr} {es : List Expr} {ta : TA} {p pz zpos pos : Pos} (hc : X.calm = true) (hg : Gl X "list") (hm : X.mg "list" = none) (hg2 : Gl X "zip") (hm2 : X.mg "zip" = none) (ha : PA X (a :: es) ta)
    (hs : starEach [.Call (.Name "zip" pz) (a :: es) [] zpos] X.env = (false, eval (.Call (.Name "zip" pz) (a :: es) [] zpos) X.env) :: starEach [] X.env := by rfl) (he : starEach (a :: es) X.env = (false, eval a X.env) :: starEach es X.env := by rfl) (hpl : (backTo zpos (starEach es X.env)).any (·.1) = false := by rfl) :
    PE X (.Call (.Name "list" p) [.Call (.Name "zip" pz) (a :: es) [] zpos] [] pos) (tLstZip X.K ta) := by
  refine ⟨fun pins s σ H Q I h => ?_⟩
  refine PyProof.Rows.Call_ (ld_blt I hg hm (u := .type "list") (by rfl) (PyProof.Rows.callWith_type1 ?_ hs rfl)) rfl
  rw [hs]
  refine Calls.spliced_cons (PyProof.Rows.Call_ (ld_blt I hg2 hm2 (u := .type "zip") (by rfl) (PyProof.Rows.callWith_type1 (thn (ha.run zpos pins s σ H _ I h) fun us s1 ⟨vs, H1, I1, r1, q1⟩ => ?_) he hpl)) rfl)
  obtain ⟨la, lb, xs, ys, rfl, hxs, hys, hll, hz, q⟩ := q1
  obtain ⟨u1, u2, rfl, r1a, r1b⟩ := vals2 r1
  obtain rfl : u1 = Value.ref la := r1a
  obtain rfl : u2 = Value.ref lb := r1b
  obtain ⟨its1, rv1, pl1, _⟩ := I1.list hxs
  obtain ⟨its2, rv2, pl2, _⟩ := I1.list hys
  have hl1 : its1.length = xs.length := by rw [← rv1.length, List.length_map]
  have hl2 : its2.length = ys.length := by rw [← rv2.length, List.length_map]
  have lt1 : la < s1.heap.objs.size := by obtain ⟨o, _, e, _⟩ := pl1; exact Heap.lt_size e
  have lt2 : lb < s1.heap.objs.size := by obtain ⟨o, _, e, _⟩ := pl2; exact Heap.lt_size e
  refine call_zip_2 pl1.isList pl2.isList fun h2 z1 z2 z3 z4 z5 z6 z7 => Calls.spliced_nil ?_
  have I2 := I1.kept (t' := s1.toks) z7
  have D : ZipApart (s1.heap.objs.size + 4) (s1.heap.objs.size + 2) (s1.heap.objs.size + 3) s1.heap.objs.size (s1.heap.objs.size + 1) la lb := zipApart lt1 lt2
  have st : ZSt h2 (s1.heap.objs.size + 4) (s1.heap.objs.size + 2) (s1.heap.objs.size + 3) s1.heap.objs.size (s1.heap.objs.size + 1) la lb its1.toArray its2.toArray 0 := ⟨fun _ => ⟨_, _, z1, z3⟩, fun e => absurd e (Nat.lt_irrefl _), z2, z4, z5, (by obtain ⟨o, q1, q2⟩ := pl1.isList; exact ⟨o, z7 _ _ q1, q2⟩), (by obtain ⟨o, q1, q2⟩ := pl2.isList; exact ⟨o, z7 _ _ q1, q2⟩)⟩
  refine call_list_zip (n := xs.length) (s := { s1 with heap := h2 }) (I2.ok.hd hc) D (by simp; omega) (Nat.le_trans (Nat.succ_le_succ hz) (by decide)) st fun h3 acc c as k1 k2 k3 => ?_
  obtain ⟨hp, p1, p2, p3⟩ := padded s1.heap 5
  have I3 := I1.kept (h' := hp) (t' := s1.toks) p2
  have hk : ∀ b ob, hp.get? b = some ob → h3.get? b = some ob := fun b ob e => by
    have e1 := p3 b ob e
    obtain ⟨n1, n2, n3, n4⟩ := lt_off (Heap.lt_size e1)
    exact k1 b ob n1 n2 n3 n4 (z7 b ob e1)
  have hsz : hp.objs.size = h2.objs.size := by rw [p1, z6]
  have hG : W.KdxG (mixKind X.prog X.w) ((xs.zip its2).map fun p => ((Sum.inl p.1 : Key), p.2)) hp.objs.size h3 as := by
    rw [hsz]
    refine ⟨k3.rise, k3.above, fun j a hj => ?_⟩
    obtain ⟨x, y, hx, hy, hpair⟩ := k3.pairs j a hj
    have hx' : its1[j]? = some x := by simpa using hx
    have hy' : its2[j]? = some y := by simpa using hy
    obtain ⟨n, hn⟩ : ∃ n, xs[j]? = some n := ⟨_, List.getElem?_eq_getElem (by have := (List.getElem?_eq_some_iff.mp hx').1; omega)⟩
    obtain ⟨u, hu, ru⟩ := rv1.get (i := j) (x := .int n) (by rw [List.getElem?_map, hn]; rfl)
    rw [hx'] at hu
    cases hu
    obtain ⟨t, rfl⟩ := ru
    refine ⟨_, .inl n, y, ?_, ?_, hpair⟩
    · rw [List.getElem?_map, (List.getElem?_zip_eq_some (z := (n, y))).mpr ⟨hn, hy'⟩]
      rfl
    · show (n == n) = true
      exact beq_self_eq_true n
  have hal : as.length = ((xs.zip its2).map fun p => ((Sum.inl p.1 : Key), p.2)).length := by
    rw [k3.len, List.length_map, List.length_zip]
    omega
  obtain ⟨H3, e1, e2, e3, e4, e5, e6, I4⟩ := LiI.items_laid (kvs := (xs.zip ys).map fun p => ((Sum.inl p.1 : Key), V.int p.2)) (tk := s1.toks) (s := { s1 with heap := hp, toks := s1.toks }) I3 (by rw [List.length_map, List.length_zip]; exact Nat.le_trans (Nat.min_le_left _ _) (Nat.le_trans hz (by decide))) (kv_zip xs ys its2 rv2) hk (by rw [show ({ s1 with heap := hp, toks := s1.toks } : Shared).heap.objs.size = h2.objs.size from hsz]; exact k2) hal hG k3.acc
  refine ⟨.ref h2.objs.size, H3, I4, rfl, q h2.objs.size as H3 e1 ?_ k3.len fun j t hj => ?_⟩
  · rw [← hsz]
    exact e5
  · obtain ⟨q', h1, h2'⟩ := paired_at e6 hj
    rw [List.getElem?_map] at h1
    cases hz' : (xs.zip ys)[j]? with
    | none => rw [hz'] at h1; cases h1
    | some p =>
      rw [hz'] at h1
      cases h1
      obtain ⟨h3', h4'⟩ := List.getElem?_zip_eq_some.mp hz'
      exact ⟨p.1, p.2, h3', h4', h2'⟩
end
end L2

set_option Elab.async false
set_option maxRecDepth 100000
set_option maxHeartbeats 4000000
namespace L2
open PySem PySem.Spec PyProof.Rows
section
variable {X : Cx} {K : PySem.W.Frag}
theorem op_in_seqK (h : X.K = K) : OpR X (compareOp .In) (rIn K false) := by
  subst h
  exact op_in_seq
theorem op_notIn_seqK (h : X.K = K) : OpR X (compareOp .NotIn) (rIn K true) := by
  subst h
  exact op_notIn_seq
theorem inV_ints (a : Int) : ∀ ns : List Int, inV (.int a) (ns.map V.int) = decide (a ∈ ns)
  | [] => rfl
  | n :: ns => by
    have ih := inV_ints a ns
    unfold inV at ih ⊢
    rw [List.map_cons, List.any_cons, ih]
    have e : eqV (.int n) (.int a) = decide (n = a) := rfl
    rw [e, Bool.eq_iff_iff]
    simp
    constructor
    · rintro (e | e)
      · exact .inl e.symm
      · exact .inr e
    · rintro (e | e)
      · exact .inl e.symm
      · exact .inr e
theorem flat_ints {ns : List Int} : (ns.map V.int).all flatV = true := by
  rw [List.all_eq_true]
  intro v hv
  obtain ⟨n, _, rfl⟩ := List.mem_map.mp hv
  rfl
end
end L2

set_option Elab.async false
set_option maxRecDepth 100000
set_option maxHeartbeats 4000000
namespace L2
open PySem PySem.Spec PyProof.Rows
section
variable {X : Cx} {K : PySem.W.Frag} {a : Expr} {ta : TE}
/-- a truth test with K named, for what stands within a comprehension -/
def tTruK (K : PySem.W.Frag) (ta : TE) : TT := fun σ H Q => ta σ H fun x H' => ∃ k, TruV K x H' k ∧ Q k H'
theorem pt_truthK (h : X.K = K) (ha : PE X a ta) (he : ∀ whole, isTrue a X.env whole = (do let v ← whole; standAt a.pos; holding [v] (truthy v))) :
    PT X a (tTruK K ta) := by
  subst h
  exact pt_truth ha he
end
end L2

set_option Elab.async false
set_option maxRecDepth 100000
set_option maxHeartbeats 4000000
/-! for over a list or a tuple, one walk for both; the body only adds to the heap -/
namespace L2
open PySem PySem.Spec PyProof.Rows
section
variable {K : PySem.W.Frag} {a : Addr} {xs : List V}
theorem for_sq {g : TG} {tb : TS} {D : Ends} {σ : St} {H : Hp} (hx : SqL K H a xs ∨ SqT K H a xs) (Pv : Nat → St → Hp → Prop) (h0 : Pv 0 σ H) (hE : ∀ i σ' H', Pv i σ' H' → Ext H H')
    (hs : ∀ i x σ' H', xs[i]? = some x → Pv i σ' H' → g x σ' H' fun σ2 H2 => tb { D with nx := Pv (i + 1), ct := Pv (i + 1), bk := D.nx } σ2 H2) (hd : ∀ σ' H', Pv xs.length σ' H' → D.nx σ' H') :
    ((∃ xs, SqL K H a xs) ∧ turnsOf g tb D σ (Itl K a) H) ∨ ((∃ xs, SqT K H a xs) ∧ turnsOf g tb D σ (Itt K a) H) := by
  have step : ∀ i x σ' H' H'', i < xs.length → Pv i σ' H' → YAt xs i H' x H'' → g x σ' H'' fun σ2 H2 => tb { D with nx := Pv (i + 1), ct := Pv (i + 1), bk := D.nx } σ2 H2 := by
    rintro i x σ' H' H'' _ pv ⟨rfl, hx'⟩
    exact hs i x σ' H'' hx' pv
  rcases hx with hx | hx
  · exact .inl ⟨⟨xs, hx⟩, for_it (walk_list (xs := xs)) Pv h0 (fun i σ' H' _ pv => hx.ext (hE i σ' H' pv)) step hd⟩
  · exact .inr ⟨⟨xs, hx⟩, for_it (walk_tup (xs := xs)) Pv h0 (fun i σ' H' _ pv => hx.ext (hE i σ' H' pv)) step hd⟩
end
end L2

set_option Elab.async false
set_option maxRecDepth 100000
set_option maxHeartbeats 4000000
/-! a tuple whose object is known: its methods may be called -/
namespace L2
open PySem PySem.Spec PyProof.Rows
def FrzT (H : Hp) (a : Addr) (ts : List V) : Prop := ∃ o, H a = some (.frz o (.tup ts)) ∧ o.dict = none
theorem FrzT.sqT {K : PySem.W.Frag} {H : Hp} {a : Addr} {ts : List V} (h : FrzT H a ts) : SqT K H a ts := by
  obtain ⟨o, h, _⟩ := h
  exact .inl (.inr ⟨o, h⟩)
theorem FrzT.ext {H H' : Hp} {a : Addr} {ts : List V} (h : FrzT H a ts) (e : Ext H H') : FrzT H' a ts := by
  obtain ⟨o, h, d⟩ := h
  exact ⟨o, e _ _ h, d⟩
def rTupFrz (K : PySem.W.Frag) : List V → Hp → VK → Prop := fun xs H Q => ∃ p ys, xs = [.ref p] ∧ SqL K H p ys ∧ ∀ l o, H l = none → o.dict = none → Q (.ref l) (upd H l (.frz o (.tup ys)))
section
variable {X : Cx}
theorem call_tuple_frz : CallR X (.type "tuple") (rTupFrz X.K) := by
  intro pins s σ H xs us Q I r h
  obtain ⟨p, ys, rfl, hq, q⟩ := h
  obtain ⟨u, rfl, rx⟩ := vals1 r
  cases rx
  obtain ⟨its, r', pl, hz⟩ := I.list hq
  have hlen := r'.length
  refine call_tuple_list pl.isList (fun h' kp => ?_) (by simp only [List.size_toArray] <;> omega)
  have I1 : Inv X pins σ H { s with heap := h' } := I.kept (t' := s.toks) kp
  have I2 : Inv X pins σ (upd H h'.objs.size (.frz { cls := .type "tuple", data := .seq its.toArray } (.tup ys))) { s with heap := h'.push { cls := .type "tuple", data := .seq its.toArray } } :=
    I1.laid (t' := s.toks) (fun b o e => Heap.get?_push_of_some _ e) (Nat.le_refl _) (show ObjOk X.prog X.w _ _ _ (.frz _ (.tup ys)) from ⟨Heap.get?_push_size _ rfl, hz, its, r', IsTup.new _ _⟩)
  exact ⟨.ref h'.objs.size, _, I2, rfl, q _ _ (I1.hok.fresh (Nat.le_refl _)) rfl⟩
def tTM (r : V → List V → Hp → VK → Prop) (to : TE) (t : TA) : TE := fun σ H Q => to σ H fun x H1 => ∃ a ts, x = .ref a ∧ FrzT H1 a ts ∧ t σ H1 fun xs H2 => r x xs H2 Q
variable {o e : Expr} {es : List Expr} {to : TE} {t : TA} {name : Str} {apos cpos : Pos} {id : String} {r : V → List V → Hp → VK → Prop}
theorem pe_tm (slot : Slot "tuple" name id) (hty : typeOf (.builtin id) = pure (.type "method_descriptor")) (hm : MtR X id r) (ho : PE X o to) (ha : PA X (e :: es) t)
    (hbase : attributeBase o name X.env (eval o X.env) = eval o X.env := by rfl)
    (hfew : ((backTo cpos (starEach (e :: es) X.env)).all (fun x => !x.1) && (backToKw cpos (keywordEach [] X.env)).all (fun x => x.1.isSome)
      && decide ((e :: es).length + ([] : List Keyword).length + (if ([] : List Keyword).isEmpty then 0 else 1) < 30)) = true := by rfl)
    (hline : (apos.endLine == cpos.line) = true := by rfl) (hs : starEach (e :: es) X.env = (false, eval e X.env) :: starEach es X.env := by rfl) (hplain : (backTo cpos (starEach es X.env)).any (·.1) = false := by rfl) :
    PE X (.Call (.Attribute o name apos) (e :: es) [] cpos) (tTM r to t) := by
  refine ⟨fun pins s σ H Q I h => ?_⟩
  refine wpAny_Call_method_late hbase hfew hline rfl (thn (ho.run pins s σ H _ I h) fun v s1 ⟨x, H1, I1, r1, a, ts, ex, hf, q1⟩ => ?_)
  subst ex
  obtain ⟨ob, hf, hd⟩ := hf
  obtain ⟨h0, _, its, _, ⟨ob', h0', hc, _⟩⟩ := I1.hok a _ hf
  rw [h0] at h0'
  cases h0'
  cases (show v = Value.ref a from r1)
  refine ⟨"tuple", id, PySem.F.plainAttrs_tuple, slot, hty, ⟨ob, h0, hc⟩, fun b eb => by cases eb; exact ⟨ob, h0, hd⟩, ?_⟩
  have hA := ha.run cpos pins s1 σ H1 _ I1 q1
  rw [hs] at hA ⊢
  refine Calls.callWith_builtin (by show (false || (backTo cpos (starEach es X.env)).any (·.1)) = false; rw [hplain] <;> rfl) (Calls.evalArgs_plain ?_)
  exact thn hA fun us s2 ⟨vs, H2, I2, r2, q2⟩ => hm pins s2 σ H2 (.ref a) vs (.ref a) us Q I2 rfl r2 q2
end
theorem sl_listK {X : Cx} {K : PySem.W.Frag} (h : X.K = K) : SlR X (rSlL K) := by
  subst h
  exact sl_list
section
variable {K : PySem.W.Frag} {a : Addr} {xs : List V}
/-- for over a list or a tuple that the body leaves, though it writes elsewhere -/
theorem for_sqM {g : TG} {tb : TS} {D : Ends} {σ : St} {H0 H : Hp} (hx : SqL K H0 a xs ∨ SqT K H0 a xs) (Pv : Nat → St → Hp → Prop) (h0 : Pv 0 σ H) (hE : ∀ i σ' H', Pv i σ' H' → Ext H0 H')
    (hs : ∀ i x σ' H', xs[i]? = some x → Pv i σ' H' → g x σ' H' fun σ2 H2 => tb { D with nx := Pv (i + 1), ct := Pv (i + 1), bk := D.nx } σ2 H2) (hd : ∀ σ' H', Pv xs.length σ' H' → D.nx σ' H') :
    ((∃ xs, SqL K H a xs) ∧ turnsOf g tb D σ (Itl K a) H) ∨ ((∃ xs, SqT K H a xs) ∧ turnsOf g tb D σ (Itt K a) H) := by
  have step : ∀ i x σ' H' H'', i < xs.length → Pv i σ' H' → YAt xs i H' x H'' → g x σ' H'' fun σ2 H2 => tb { D with nx := Pv (i + 1), ct := Pv (i + 1), bk := D.nx } σ2 H2 := by
    rintro i x σ' H' H'' _ pv ⟨rfl, hx'⟩
    exact hs i x σ' H'' hx' pv
  have e0 := hE 0 _ _ h0
  rcases hx with hx | hx
  · exact .inl ⟨⟨xs, hx.ext e0⟩, for_it (walk_list (xs := xs)) Pv h0 (fun i σ' H' _ pv => hx.ext (hE i σ' H' pv)) step hd⟩
  · exact .inr ⟨⟨xs, hx.ext e0⟩, for_it (walk_tup (xs := xs)) Pv h0 (fun i σ' H' _ pv => hx.ext (hE i σ' H' pv)) step hd⟩
/-- for i, x in enumerate(e), the body leaving e, though it writes elsewhere -/
theorem for_enSqM {g : TG} {tb : TS} {D : Ends} {σ : St} {H0 H : Hp} (hx : SqL K H0 a xs ∨ SqT K H0 a xs) (Pv : Nat → St → Hp → Prop) (h0 : Pv 0 σ H) (hE : ∀ i σ' H', Pv i σ' H' → Ext H0 H')
    (hs : ∀ i x σ' H' T, xs[i]? = some x → Pv i σ' H' → H' T = none → g (.ref T) σ' (upd H' T (.tup [.int (i : Nat), x])) fun σ2 H2 => tb { D with nx := Pv (i + 1), ct := Pv (i + 1), bk := D.nx } σ2 H2) (hd : ∀ σ' H', Pv xs.length σ' H' → D.nx σ' H') :
    ((∃ xs, SqL K H a xs) ∧ turnsOf g tb D σ (Ite K a) H) ∨ ((∃ xs, SqT K H a xs) ∧ turnsOf g tb D σ (Itet K a) H) := by
  have step : ∀ i x σ' H' H'', i < xs.length → Pv i σ' H' → YPair (fun i => some (V.int (i : Nat))) (fun i => xs[i]?) i H' x H'' → g x σ' H'' fun σ2 H2 => tb { D with nx := Pv (i + 1), ct := Pv (i + 1), bk := D.nx } σ2 H2 := by
    rintro i v σ' H' H'' hi pv ⟨T, x, y, rfl, hT, rfl, hx', hy⟩
    cases hx'
    exact hs i y σ' H' T hy pv hT
  have e0 := hE 0 _ _ h0
  rcases hx with hx | hx
  · exact .inl ⟨⟨xs, hx.ext e0⟩, for_it (walk_enum (xs := xs)) Pv h0 (fun i σ' H' _ pv => hx.ext (hE i σ' H' pv)) step hd⟩
  · exact .inr ⟨⟨xs, hx.ext e0⟩, for_it (walk_enT (xs := xs)) Pv h0 (fun i σ' H' _ pv => hx.ext (hE i σ' H' pv)) step hd⟩
end
end L2

set_option Elab.async false
set_option maxRecDepth 100000
set_option maxHeartbeats 4000000
/-! data beside instances within a tuple -/
namespace L2
open PySem PySem.Spec PyProof.Rows
section
variable {X : Cx}
variable {n : Nat}
/-- two things of data -/
def DDat (K : PySem.W.Frag) : EqvB := fun x y H k => ∃ a b d e, x = .ref a ∧ y = .ref b ∧ (a = b → k = true) ∧ Dp K H x d ∧ Dp K H y e ∧ SeqAt.shaped d = true ∧ SeqAt.shaped e = true ∧ k = PyData.eqv d e
theorem rcB_dat : RcB X n (DDat X.K) := by
  intro A pins s σ H x y u v k sb I rx ry d
  obtain ⟨a, b, d, e, rfl, rfl, _, hd, he, sd, se, rfl⟩ := d
  obtain ⟨as, r1⟩ := Dp.reads I d _ u hd rx
  obtain ⟨bs, r2⟩ := Dp.reads I e _ v he ry
  exact SeqAt.compareEq_shaped r1 r2 sd se sb.room.units ⟨rfl, H, I, Ext.rfl'⟩
theorem eqB_dat : EqB X n (DDat X.K) := rcB_dat.eqB fun x y H k d => by
  obtain ⟨a, b, _, _, h1, h2, h3, _⟩ := d
  exact ⟨a, b, h1, h2, h3⟩
theorem EqB.or {D D' : EqvB} (h : EqB X n D) (h' : EqB X n D') : EqB X n (fun x y H k => D x y H k ∨ D' x y H k) := by
  intro A pins s σ H x y u v k sb I rx ry d
  exact d.elim (fun d => h A pins s σ H x y u v k sb I rx ry d) (fun d => h' A pins s σ H x y u v k sb I rx ry d)
theorem MonB.or {D D' : EqvB} (h : MonB D) (h' : MonB D') : MonB (fun x y H k => D x y H k ∨ D' x y H k) := fun x y H H' k e d => d.imp (h x y H H' k e) (h' x y H H' k e)
theorem mon_dat {K : PySem.W.Frag} : MonB (DDat K) := fun x y H H' k e d => by
  obtain ⟨a, b, d, f, h1, h2, h3, hd, he, h4⟩ := d
  exact ⟨a, b, d, f, h1, h2, h3, dp_ext e _ _ hd, dp_ext e _ _ he, h4⟩
end
end L2

set_option Elab.async false
set_option maxRecDepth 100000
set_option maxHeartbeats 4000000
/-! not in, of an own __contains__ -/
namespace L2
open PySem PySem.Spec PyProof.Rows
section
variable {X : Cx} {CX : CXT} {k : Nat} {f C : Addr} {fd : FuncData} {ps : List Str} {sp : Sp}
def rNinO (C : Addr) (sp : Sp) : R2 := fun x y H Q => ∃ a dx fs, y = .ref a ∧ H a = some (.ins C dx fs) ∧ sp [y, x] H (fun v H' => ∃ b, v = .bl b ∧ Q (.bl (!b)) H') E0
theorem op_ninO (F : FnOk X.prog X.w X.K X.mg X.base CX k f fd ps sp) (hs : PySem.W.findIn X.K (.ref C) "__contains__" = some (some (.ref f))) (hf : PySem.W.isFn X.K (.ref f) = true) (hr : Room k X.A) (hb : Binds X.K fd ps []) (hx : Passes CX X E0) : OpR X (compareOp .NotIn) (rNinO C sp) := by
  intro pins s g J x y v u Q I rx ry hq
  obtain ⟨a, dx, fs, rfl, ha, q⟩ := hq
  cases (show u = Value.ref a from ry)
  obtain ⟨mA, O, _⟩ := ins_get I.hok ha
  obtain ⟨od, O, _⟩ := O.look
  show wpAny (model X.prog X.w) X.A (contains (.ref a) v >>= fun b => pure (.bool (!b))) (EP X pins g Q) X.xe s
  refine wpAny_bind (PySem.W.contains_fn I.kIn O hs hf (wpAny_mono (run_at (vs := [.ref a, x]) F hr rfl hb hx I (.cons rfl (.cons rx .nil)) q) (fun r s' z => ?_) fun _ _ e => e))
  obtain ⟨w', J', I', rv, b, rfl, q'⟩ := z
  cases rv
  exact ⟨b, rfl, wpAny_pure ⟨.bl (!b), J', I', rfl, q'⟩⟩
theorem ninO {m : Nat} (O : OwnM X.prog X.w X.K X.mg X.base CX C "__contains__" m ps sp) (hr : Room m X.A) (hx : Passes CX X E0) : OpR X (compareOp .NotIn) (rNinO C sp) := by
  obtain ⟨f, fd, F, M, hi, hb⟩ := O.ex
  exact op_ninO F M.at_ hi hr hb hx
end
end L2

set_option Elab.async false
set_option maxRecDepth 100000
set_option maxHeartbeats 4000000
/-! xs.count(y), over data -/
namespace L2
open PySem PySem.Spec PyProof.Rows
section
variable {X : Cx}
def rCntD (K : PySem.W.Frag) : V → List V → Hp → VK → Prop := fun x xs H Q => ∃ (a : Addr) (y : V) (d : PyData) (ds : List PyData), x = V.ref a ∧ xs = [y] ∧ Dp K H (V.ref a) (.list ds) ∧ Dp K H y d ∧ PyData.plainAll ds = true ∧ d.plain = true ∧ PyData.depthAll ds ≤ 60 ∧ Q (.int ((ds.countP fun z => PyData.eqv z d : Nat) : Int)) H
theorem mt_countD (hu : X.A.units + 64 < cLine) : MtR X "list.count" (rCntD X.K) := by
  intro pins s σ H x xs v us Q I rx rxs h
  obtain ⟨a, y, d, ds, rfl, rfl, hl, hy, sl, sd, hdp, q⟩ := h
  cases rx
  obtain ⟨u, rfl, ru⟩ := rxs.one
  obtain ⟨bs, r1⟩ := Dp.reads I d y u hy ru
  cases hl with
  | lst hs ha =>
    obtain ⟨its, rv, pl, _⟩ := I.list hs
    obtain ⟨as, h4⟩ := Dp.readsAll I ds _ its ha rv
    exact SeqAt.count_list_data pl.isList (by simpa using h4) r1 sl sd (by have := Nat.min_le_left (PyData.depthAll ds) d.depth; omega) ⟨.int _, H, I.tok _, ⟨_, rfl⟩, q⟩
end
end L2

set_option Elab.async false
set_option linter.all false
set_option maxRecDepth 100000
set_option maxHeartbeats 4000000
/-! a generator's for and if -/
namespace L2
open PySem PySem.Spec PyProof.Rows GenW
section
variable {M : Model} {A : Around} {R : GenEnd} {Y : Protocol} {n : Nat} {s₀ s : Shared} {c : Code} {fs : List Frame} {env : Env} {K : Flow → Sem PySem.Fin} {J : Value → Sem PySem.Fin} {gd : Bool → Bool} {lv : List Value → List Value}
/-- the row that an error leaves in a loop's code -/
abbrev marked (env : Env) (e : Value) : Sem PySem.Fin := (do noteFrame e env; theTreesLotGoes e : Sem Unit).bind fun _ => .raise e
/-- what a loop's body goes on to -/
abbrev onward (l : Code) : Flow → Sem PySem.Fin := fun f => match f with
  | .next | .cont => .pure (.again l)
  | .brk => .pure (.done .next)
  | .ret v => .pure (.done (.ret v))
theorem gseg_if {test : Expr} {body orelse : List Stmt} {pos : Pos}
    (h : wpAny M (A.over c fs) (isTrue test env (eval test env)) (fun b s' => Seg M A R Y n s₀ c ((if b = true then execs body env else execs orelse env).wrap K J gd lv) fs s') (fun x s' => Seg M A R Y n s₀ c (J x) fs s') s) :
    Seg M A R Y n s₀ c ((exec (.If test body orelse pos) env).wrap K J gd lv) fs s := by
  rw [exec_If]
  refine seg_bind_wrap (wpAny_standAt ?_)
  refine seg_bind_wrap (wpAny_mono h (fun b s' hb => ?_) fun _ _ hx => hx)
  cases b <;> exact hb
theorem gseg_for {tg iter : Expr} {body : List Stmt} {pos : Pos} (hs : ∀ x, foldedSetIterable iter env x = pure x)
    (h : wpAny M (A.over c fs) (eval iter env) (fun v s1 => wpAny M (A.over c fs) (pyIter v) (fun it s2 => ∀ p, Seg M A R Y n s₀ (.forLoop tg it body [] env) (M.den (.forLoop tg it body [] env))
      (.ret (fun r => ((match r with | .ok f => (.pure f : Sem Flow) | .error e => .raise e).onRaise (cameBack env)).wrap K J gd lv) none (gd false) (lv []) c p [] :: fs) s2) (fun x s' => Seg M A R Y n s₀ c (J x) fs s') s1) (fun x s' => Seg M A R Y n s₀ c (J x) fs s') s) :
    Seg M A R Y n s₀ c ((exec (.For tg iter body [] pos) env).wrap K J gd lv) fs s := by
  rw [exec_For]
  refine seg_bind_wrap (wpAny_standAt ?_)
  refine seg_bind_wrap (wpAny_mono h (fun v s1 h1 => ?_) fun _ _ hx => hx)
  refine seg_bind_wrap (wpAny_of_eq (hs v) ?_)
  refine seg_bind_wrap (wpAny_standAt ?_)
  refine seg_bind_wrap (wpAny_holding (wpAny_mono h1 (fun it s2 h2 => ?_) fun _ _ hx => hx))
  exact seg_call h2
end
section
variable {prog : Program} {w : World} {A : Around} {R : GenEnd} {Y : Protocol} {n : Nat} {s₀ s : Shared} {fs : List Frame} {env : Env}
theorem gseg_turn {tg : Expr} {it : Value} {body : List Stmt}
    (h : wpAny (model prog w) (A.over (.forLoop tg it body [] env) fs) (pyNext it) (fun r s1 => match r with
      | none => Seg (model prog w) A R Y n s₀ (.forLoop tg it body [] env) (.pure (.again (.block [] env))) fs s1
      | some v => wpAny (model prog w) (A.over (.forLoop tg it body [] env) fs) (letOwnedTupleGo tg it v) (fun _ s2 => wpAny (model prog w) (A.over (.forLoop tg it body [] env) fs) (assign tg env v) (fun _ s3 =>
          Seg (model prog w) A R Y n s₀ (.forLoop tg it body [] env) ((execs body env).wrap (onward (.forLoop tg it body [] env)) (marked env) id id) fs s3)
          (fun x s' => Seg (model prog w) A R Y n s₀ (.forLoop tg it body [] env) (marked env x) fs s') s2) (fun x s' => Seg (model prog w) A R Y n s₀ (.forLoop tg it body [] env) (marked env x) fs s') s1)
      (fun x s' => Seg (model prog w) A R Y n s₀ (.forLoop tg it body [] env) (marked env x) fs s') s) :
    Seg (model prog w) A R Y n s₀ (.forLoop tg it body [] env) ((model prog w).den (.forLoop tg it body [] env)) fs s := by
  show Seg _ A R Y n s₀ _ ((forTurn tg it body [] env).onRaise (fun x => do noteFrame x env; theTreesLotGoes x)) fs s
  unfold forTurn
  rw [Sem.onRaise_eq_wrap]
  refine seg_bind_wrap (wpAny_standAt ?_)
  refine seg_bind_wrap (wpAny_onRaise (wpAny_mono h (fun r s1 h1 => ?_) fun _ _ hx => wpAny_standAt hx))
  cases r with
  | none => exact h1
  | some v =>
    refine seg_bind_wrap (wpAny_mono h1 (fun _ s2 h2 => ?_) fun _ _ hx => hx)
    refine seg_bind_wrap (wpAny_mono h2 (fun _ s3 h3 => ?_) fun _ _ hx => hx)
    rw [Sem.bind_eq_wrap', Sem.wrap_wrap]
    rw [Sem.wrap_congr (execs body env) _ _ (K' := onward (.forLoop tg it body [] env)) (H' := marked env) (fun f => by cases f <;> rfl) (fun _ => by rfl)]
    exact h3
end
section
variable {X : Cx} {pos : Pos}
def tGIf (c : TT) (t u : TGn) : TGn := fun D ys σ H => c σ H fun b H1 => if b = true then t D ys σ H1 else u D ys σ H1
theorem gs_if {test : Expr} {body orelse : List Stmt} {tc : TT} {t u : TGn} (hc : PT X test tc) (hb : GSs X body t) (ho : GSs X orelse u) : GS X (.If test body orelse pos) (tGIf tc t u) := by
  refine ⟨fun A S ip R n ys s₀ c fs K J gd lv s σ H D g hn k hI ht => ?_⟩
  refine gseg_if ?_
  rw [g.over]
  obtain ⟨acc, cc, r, I⟩ := hI
  refine wpAny_mono (hc.run _ s σ H _ I ht) (fun b s' hb' => ?_) fun x s' hx => k.exc n s₀ x s' hx
  obtain ⟨H2, I2, q2⟩ := hb'
  cases b with
  | true => exact hb.run A S ip R n ys s₀ c fs K J gd lv s' σ H2 D g hn k ⟨acc, cc, r, I2⟩ q2
  | false => exact ho.run A S ip R n ys s₀ c fs K J gd lv s' σ H2 D g hn k ⟨acc, cc, r, I2⟩ q2
/-- W: what holds at turn i (a measure; what is out; the slots; the heap) -/
def tGFor (wi : TI) (g : TG) (tb : TGn) : TGn := fun D ys σ H => wi σ H fun J H1 => ∃ W : Nat → Nat → List V → St → Hp → Prop, (∃ m, W 0 m ys σ H1) ∧ ∀ i m ys σ H, W i m ys σ H →
  (J.stop i H ∧ D.nx ys σ H) ∨ (J.go i H ∧ ∃ N : List V → St → Hp → Prop, (∀ ys' σ' H', N ys' σ' H' → ∃ m', m' < m ∧ W (i + 1) m' ys' σ' H') ∧ ∀ x H', J.yld i H x H' → g x σ H' fun σ2 H2 => tb { D with nx := N, ct := N, bk := D.nx } ys σ2 H2)
theorem gs_for {tg iter : Expr} {body : List Stmt} {wi : TI} {g : TG} {tb : TGn} (hp : PassesOwn (model X.prog X.w) X.A X.env X.xe) (hc : X.calm = true) (hi : PI X tg iter wi) (hg : PG X tg g) (hb : GSs X body tb)
    (hs : ∀ x, foldedSetIterable iter X.env x = pure x := by intro _; rfl) : GS X (.For tg iter body [] pos) (tGFor wi g tb) := by
  refine ⟨fun A S ip R n ys s₀ c fs K J gd lv s σ H D g0 hn k hI ht => ?_⟩
  refine gseg_for hs ?_
  obtain ⟨acc, cc, r, I⟩ := hI
  rw [g0.over]
  refine wpAny_mono (hi.run _ s σ H _ I ht) (fun v s1 h1 => wpAny_mono h1 (fun itv s2 h2 p => ?_) fun x s' hx => k.exc n s₀ x s' hx) fun x s' hx => k.exc n s₀ x s' hx
  obtain ⟨it, fp, tn, Jt, H2, e, I2, T, st2, f2, W, ⟨m0, w0⟩, turn⟩ := h2
  subst e
  have notS : ∀ b ∈ fp, b ≠ S := fun b hb z => (f2 b hb).2.2.2.2.2 (S, lstObj acc cc) (List.mem_append_right _ List.mem_cons_self) z.symm
  have stat : ∀ {H' : Hp} {acc' : Array Value} {cc' : Nat}, (∀ b ∈ fp, H' b = none) → ∀ b ∈ fp, FpOk X ((S, lstObj acc' cc') :: ip) H' b := fun {H' acc' cc'} hn b hb => by
    obtain ⟨_, f1, f3, f4, f5, f6⟩ := f2 b hb
    refine ⟨hn b hb, f1, f3, f4, f5, fun q hq => ?_⟩
    rcases List.mem_append.mp hq with z | z
    · exact f6 q (List.mem_append_left _ z)
    · rcases List.mem_cons.mp z with z | z
      · rw [z]
        exact f6 (S, lstObj acc cc) (List.mem_append_right _ List.mem_cons_self)
      · exact f6 q (List.mem_append_right _ (List.mem_cons_of_mem _ z))
  have gl := fun (kk : Result → Sem PySem.Fin) => gc_loop (k := kk) (c' := .forLoop tg (.ref it) body [] X.env) (l := lv []) (kp := []) (p := p) g0 rfl rfl
  have gb := fun (kk : Result → Sem PySem.Fin) => gc_loop (k := kk) (c' := .block [] X.env) (l := lv []) (kp := []) (p := p) g0 rfl rfl
  have loop : ∀ (m n i : Nat) (ys : List V) (s₀ s : Shared) (σ : St) (H : Hp), n + ys.length = sizeLine → W i m ys σ H → tn i s.heap → (∀ b ∈ fp, H b = none) → GI X S ip ys σ H s →
      Seg (model X.prog X.w) A R (GY X S) n s₀ (.forLoop tg (.ref it) body [] X.env) ((model X.prog X.w).den (.forLoop tg (.ref it) body [] X.env))
        (.ret (fun r => ((match r with | .ok f => (.pure f : Sem Flow) | .error e => .raise e).onRaise (cameBack X.env)).wrap K J gd lv) none (gd false) (lv []) c p [] :: fs) s := by
    intro m
    induction m using Nat.strongRecOn with
    | ind m ih =>
      intro n i ys s₀ s3 σ3 H3 hn w3 st3 fr3 hI3
      have ee : ∀ (n : Nat) (s₀ : Shared) (x : Value) (s' : Shared), X.xe x s' → Seg (model X.prog X.w) A R (GY X S) n s₀ (.forLoop tg (.ref it) body [] X.env) (marked X.env x)
          (.ret (fun r => ((match r with | .ok f => (.pure f : Sem Flow) | .error e => .raise e).onRaise (cameBack X.env)).wrap K J gd lv) none (gd false) (lv []) c p [] :: fs) s' := fun n s₀ x s' hx => by
        unfold marked
        rw [Sem.bind_eq_wrap]
        refine seg_wrap ?_
        rw [(gl _).over]
        refine wpAny_bind (wpAny_mono (hp x s' hx) (fun _ s'' hcb => wpAny_theTreesLotGoes ?_) fun y s'' hcb => ?_)
        · exact seg_leaf (.error x) (seg_cameBack g0 k hcb)
        · exact seg_leaf (.error y) (seg_cameBack g0 k hcb)
      obtain ⟨acc3, cc3, r3, I3⟩ := hI3
      refine gseg_turn ?_
      rw [(gl _).over]
      rcases turn i m ys σ3 H3 w3 with ⟨stop, qn⟩ | ⟨go, N, hN, step⟩
      · refine wpAny_mono (T.done X rfl rfl rfl hc i _ s3 σ3 H3 X.xe I3 (stat fr3) st3 stop) (fun r s4 hr => ?_) fun x s' hx => ee n s₀ x s' hx
        obtain ⟨rfl, I4⟩ := hr
        refine seg_again rfl ?_
        show Seg _ A R _ n s₀ _ (((execs [] X.env).onRaise (fun x => do noteFrame x X.env; theTreesLotGoes x)) >>= fun f => (.pure (.done f) : Sem PySem.Fin)) _ s4
        exact seg_leaf (.ok .next) (k.ok n ys s₀ s4 .next hn ⟨σ3, H3, ⟨acc3, cc3, r3, I4⟩, qn⟩)
      · refine wpAny_mono (T.item X rfl rfl rfl hc i _ s3 σ3 H3 X.xe I3 (stat fr3) st3 go) (fun r s4 hr => ?_) fun x s' hx => ee n s₀ x s' hx
        obtain ⟨u, rfl, h4⟩ := hr
        refine wpAny_mono h4 (fun _ s5 h5 => ?_) fun x s' hx => ee n s₀ x s' hx
        obtain ⟨x, H5, I5, r5, y5, st5, fr5⟩ := h5
        have I5' := I5.pinned (stat fr5) (T.obj _ _ st5)
        refine wpAny_mono (hg.run _ s5 σ3 H5 x u _ I5' r5 (step x H5 y5)) (fun _ s6 h6 => ?_) fun x s' hx => ee n s₀ x s' hx
        obtain ⟨σ6, H6, I6, q6⟩ := h6
        have g1 := gl (fun r => ((match r with | .ok f => (.pure f : Sem Flow) | .error e => .raise e).onRaise (cameBack X.env)).wrap K J gd lv)
        have gl' : GC X S (ip ++ pinsAt fp s5.heap) A (.forLoop tg (.ref it) body [] X.env) (.ret (fun r => ((match r with | .ok f => (.pure f : Sem Flow) | .error e => .raise e).onRaise (cameBack X.env)).wrap K J gd lv) none (gd false) (lv []) c p [] :: fs) id :=
          ⟨g1.pn, fun q hq => (List.mem_append.mp hq).elim (g1.ip q) fun z => notS q.1 (of_pinsAt z).1, g1.apart, g1.over, g1.split, g1.guard, rfl⟩
        refine hb.run A S (ip ++ pinsAt fp s5.heap) R n ys s₀ _ _ _ _ id id s6 σ6 H6 { D with nx := N, ct := N, bk := D.nx } gl' hn ⟨fun n' ys' s₀' s7 f hn' hs => ?_, fun n' s₀' x s7 hx => ee n' s₀' x s7 hx⟩ ⟨acc3, cc3, r3, I6⟩ q6
        have back : ∀ {σ7 : St} {H7 : Hp}, GI X S (ip ++ pinsAt fp s5.heap) ys' σ7 H7 s7 → GI X S ip ys' σ7 H7 s7 ∧ tn (i + 1) s7.heap ∧ ∀ b ∈ fp, H7 b = none := fun {σ7 H7} h7 => by
          obtain ⟨acc7, cc7, r7, I7⟩ := h7
          have pin : ∀ b ∈ fp, ∀ o, s5.heap.get? b = some o → s7.heap.get? b = some o ∧ H7 b = none := fun b hb o e => by
            obtain ⟨e1, e2, _⟩ := I7.pin (b, o) (List.mem_append_right _ (List.mem_cons_of_mem _ (List.mem_append_right _ (mem_pinsAt hb e))))
            exact ⟨e1, e2⟩
          refine ⟨⟨acc7, cc7, r7, Inv.unpinned (pins := (S, lstObj acc7 cc7) :: ip) (pl := pinsAt fp s5.heap) I7⟩, T.keep _ _ _ st5 fun b hb o e => (pin b hb o e).1, fun b hb => ?_⟩
          obtain ⟨o, e, _⟩ := T.obj _ _ st5 b hb
          exact (pin b hb o e).2
        cases f with
        | next =>
          obtain ⟨σ7, H7, G7, n7⟩ := hs
          obtain ⟨m', hm, w7⟩ := hN ys' σ7 H7 n7
          obtain ⟨G8, st8, fr8⟩ := back G7
          exact seg_again rfl (ih m' hm n' (i + 1) ys' s₀' s7 σ7 H7 hn' w7 st8 fr8 G8)
        | cont =>
          obtain ⟨σ7, H7, G7, n7⟩ := hs
          obtain ⟨m', hm, w7⟩ := hN ys' σ7 H7 n7
          obtain ⟨G8, st8, fr8⟩ := back G7
          exact seg_again rfl (ih m' hm n' (i + 1) ys' s₀' s7 σ7 H7 hn' w7 st8 fr8 G8)
        | brk =>
          obtain ⟨σ7, H7, G7, n7⟩ := hs
          exact seg_leaf (.ok .next) (k.ok n' ys' s₀' s7 .next hn' ⟨σ7, H7, (back G7).1, n7⟩)
        | ret v =>
          obtain ⟨x7, σ7, H7, G7, r7, n7⟩ := hs
          exact seg_leaf (.ok (.ret v)) (k.ok n' ys' s₀' s7 (.ret v) hn' ⟨x7, σ7, H7, (back G7).1, r7, n7⟩)
  exact loop m0 n 0 ys s₀ s2 σ H2 hn w0 st2 (fun b hb => (f2 b hb).1) ⟨acc, cc, r, I2⟩
end
end L2

set_option Elab.async false
set_option linter.all false
set_option maxRecDepth 100000
set_option maxHeartbeats 4000000
/-! max(xs, default=d), min(xs, default=d), ints -/
namespace L2
open PySem PySem.Spec PyProof.Rows
def mxD (d : Int) : List Int → Int
  | [] => d
  | n :: ns => ns.foldl max n
def mnD (d : Int) : List Int → Int
  | [] => d
  | n :: ns => ns.foldl min n
theorem foldl_max (n : Int) : ∀ ns : List Int, (ns.foldl max n = n ∨ ns.foldl max n ∈ ns) ∧ n ≤ ns.foldl max n ∧ ∀ y ∈ ns, y ≤ ns.foldl max n
  | [] => ⟨.inl rfl, Int.le_refl _, fun _ h => nomatch h⟩
  | k :: ns => by
    obtain ⟨h1, h2, h3⟩ := foldl_max (max n k) ns
    rw [List.foldl_cons]
    refine ⟨?_, by omega, fun y hy => ?_⟩
    · rcases h1 with h1 | h1
      · rcases Int.le_total n k with h | h
        · exact .inr (by rw [h1, Int.max_eq_right h]; exact List.mem_cons_self)
        · exact .inl (by rw [h1, Int.max_eq_left h])
      · exact .inr (List.mem_cons_of_mem _ h1)
    · rcases List.mem_cons.mp hy with rfl | hy
      · omega
      · exact h3 y hy
theorem foldl_min (n : Int) : ∀ ns : List Int, (ns.foldl min n = n ∨ ns.foldl min n ∈ ns) ∧ ns.foldl min n ≤ n ∧ ∀ y ∈ ns, ns.foldl min n ≤ y
  | [] => ⟨.inl rfl, Int.le_refl _, fun _ h => nomatch h⟩
  | k :: ns => by
    obtain ⟨h1, h2, h3⟩ := foldl_min (min n k) ns
    rw [List.foldl_cons]
    refine ⟨?_, by omega, fun y hy => ?_⟩
    · rcases h1 with h1 | h1
      · rcases Int.le_total n k with h | h
        · exact .inl (by rw [h1, Int.min_eq_left h])
        · exact .inr (by rw [h1, Int.min_eq_right h]; exact List.mem_cons_self)
      · exact .inr (List.mem_cons_of_mem _ h1)
    · rcases List.mem_cons.mp hy with rfl | hy
      · omega
      · exact h3 y hy
theorem mxD_mem {d : Int} {ns : List Int} (h : ns ≠ []) : mxD d ns ∈ ns ∧ ∀ y ∈ ns, y ≤ mxD d ns := by
  cases ns with
  | nil => exact absurd rfl h
  | cons n ns =>
    obtain ⟨h1, h2, h3⟩ := foldl_max n ns
    refine ⟨?_, fun y hy => ?_⟩
    · rcases h1 with h1 | h1
      · exact List.mem_cons.mpr (.inl h1)
      · exact List.mem_cons_of_mem _ h1
    · rcases List.mem_cons.mp hy with rfl | hy
      · exact h2
      · exact h3 y hy
theorem mnD_mem {d : Int} {ns : List Int} (h : ns ≠ []) : mnD d ns ∈ ns ∧ ∀ y ∈ ns, mnD d ns ≤ y := by
  cases ns with
  | nil => exact absurd rfl h
  | cons n ns =>
    obtain ⟨h1, h2, h3⟩ := foldl_min n ns
    refine ⟨?_, fun y hy => ?_⟩
    · rcases h1 with h1 | h1
      · exact List.mem_cons.mpr (.inl h1)
      · exact List.mem_cons_of_mem _ h1
    · rcases List.mem_cons.mp hy with rfl | hy
      · exact h2
      · exact h3 y hy
section
variable {X : Cx}
def rMxD (K : PySem.W.Frag) (f : Int → List Int → Int) : List V → List V → Hp → VK → Prop := fun vs zs H Q => ∃ (a : Addr) (ns : List Int) (d : Int), vs = [V.ref a] ∧ zs = [.int d] ∧ SqL K H a (ns.map V.int) ∧ Q (.int (f d ns)) H
theorem ints_pd (ns : List Int) : (ns.map V.int).map pd = ns.map PyData.int := by
  rw [List.map_map]
  rfl
theorem ints_alike (ns : List Int) : PySem.W.AlikeAll (ns.map PyData.int) := by
  refine ⟨fun x hx y hy => ?_, fun x hx => ?_⟩
  · obtain ⟨a, _, rfl⟩ := List.mem_map.mp hx
    obtain ⟨b, _, rfl⟩ := List.mem_map.mp hy
    rfl
  · obtain ⟨a, _, rfl⟩ := List.mem_map.mp hx
    exact fun z => nomatch z
theorem ints_dep (ns : List Int) : PyData.depthAll (ns.map PyData.int) = 0 := by
  rw [← ints_pd]
  exact (lay_all fl_ints).2
theorem cr_maxD (hc : X.calm = true) (hu : X.A.units + 64 < cLine) : CallRK X (.builtin "max") [Str.ofString "default"] (rMxD X.K mxD) := by
  intro pins s σ H vs zs us ws Q I r rz h
  obtain ⟨a, ns, d, rfl, rfl, hs, q⟩ := h
  obtain rfl := Vals.ref1 r
  obtain ⟨w1, rfl, e1⟩ := vals1 rz
  obtain ⟨its, rv, hl, _⟩ := I.list hs
  have hd : DpAll X.K H (ns.map V.int) (ns.map PyData.int) := by rw [← ints_pd]; exact dp_all fl_ints
  obtain ⟨as, h4⟩ := Dp.readsAll I _ _ its hd rv
  refine PySem.W.max_list_default (xs := ns.map PyData.int) (I.ok.hd hc) hl.isList (by simpa using h4) (ints_alike ns) (by rw [ints_dep]; omega) (fun he h' tk hk => ?_) (fun y ys i v h' tk bs he hi hr hk => ?_)
  · have hn : ns = [] := List.map_eq_nil_iff.mp he
    subst hn
    exact ⟨.int d, H, I.kept hk, e1, q⟩
  · cases ns with
    | nil => cases he
    | cons n ns =>
      rw [List.map_cons] at he
      injection he with he1 he2
      subst he1 he2
      rw [PySem.W.maxD_ints] at hr
      cases hr
      exact ⟨.int _, H, I.kept hk, ⟨_, rfl⟩, q⟩
theorem cr_minD (hc : X.calm = true) (hu : X.A.units + 64 < cLine) : CallRK X (.builtin "min") [Str.ofString "default"] (rMxD X.K mnD) := by
  intro pins s σ H vs zs us ws Q I r rz h
  obtain ⟨a, ns, d, rfl, rfl, hs, q⟩ := h
  obtain rfl := Vals.ref1 r
  obtain ⟨w1, rfl, e1⟩ := vals1 rz
  obtain ⟨its, rv, hl, _⟩ := I.list hs
  have hd : DpAll X.K H (ns.map V.int) (ns.map PyData.int) := by rw [← ints_pd]; exact dp_all fl_ints
  obtain ⟨as, h4⟩ := Dp.readsAll I _ _ its hd rv
  refine PySem.W.min_list_default (xs := ns.map PyData.int) (I.ok.hd hc) hl.isList (by simpa using h4) (ints_alike ns) (by rw [ints_dep]; omega) (fun he h' tk hk => ?_) (fun y ys i v h' tk bs he hi hr hk => ?_)
  · have hn : ns = [] := List.map_eq_nil_iff.mp he
    subst hn
    exact ⟨.int d, H, I.kept hk, e1, q⟩
  · cases ns with
    | nil => cases he
    | cons n ns =>
      rw [List.map_cons] at he
      injection he with he1 he2
      subst he1 he2
      rw [PySem.W.minD_ints] at hr
      cases hr
      exact ⟨.int _, H, I.kept hk, ⟨_, rfl⟩, q⟩
end
end L2

set_option Elab.async false
set_option linter.all false
set_option maxRecDepth 100000
set_option maxHeartbeats 4000000
/-! a generator def of the top that keeps its promise; list(f(..)) of it -/
namespace L2
open PySem PySem.Spec PyProof.Rows GenW
section
variable {P : Program} {w : World} {K : PySem.W.Frag} {mg : Str → Option Value} {base : Heap}
structure OwnG (P : Program) (w : World) (K : PySem.W.Frag) (mg : Str → Option Value) (base : Heap) (x : Str) (k : Nat) (ps : List Str) (sp : SpG) : Prop where
  ex : ∃ (f : Addr) (fd : FuncData), GFn P w K mg base k f fd ps sp ∧ mg x = some (.ref f) ∧ PySem.W.keepIn K (.ref f) = true ∧ Binds K fd ps []
theorem DefAt.ownG {x : Str} {st : Stmt} {ps : List Str} {k : Nat} {sp : SpG} (D : DefAt K mg x st ps) (h : ∀ f fd, Fun K x x st f fd → GFn P w K mg base k f fd ps sp) : OwnG P w K mg base x k ps sp := by
  obtain ⟨f, fd, F, hm, hb⟩ := D.ex
  exact ⟨f, fd, h f fd F, hm, F.kp, hb⟩
/-- a generator def by its body -/
theorem gfn_fun {x qual : Str} {st : Stmt} {f : Addr} {fd : FuncData} {N ps : List Str} {k : Nat} {sp : SpG} (F : Fun K x qual st f fd) (S : GScope N ps (defScope st)) (len : ∀ vs H Q E, sp vs H Q E → vs.length = ps.length)
    (hbody : ∀ (cdv : Value) (A : Around) (outer : List Env) (s : Shared) (H : Hp) (vs : List V) (Q : List V → Hp → Prop) (E : XK) (pn : List (Addr × Obj)), Room k (A.deeper (envOfC qual (defScope st) s.heap.objs.size f cdv)) → sp vs H Q E →
      ∃ t, GSs (gcxOf P w K mg base N qual (defScope st) f cdv A outer s H E pn) (defBody st) t ∧ t { nx := fun ys _ H' => Q ys H', rt := fun ys v H' => v = .non ∧ Q ys H' } [] (start N vs) H) : GFn P w K mg base (k + 1) f fd ps sp := by
  obtain ⟨oc, od, kV, doc, pm, an, cdv, ct, osl, rfl, lk, hcd⟩ := F.ex
  exact gfn_of lk hcd S len fun A outer s H vs Q E pn hr hsp => hbody cdv A outer s H vs Q E pn hr hsp
end
section
variable {X : Cx} {x nm : Str} {k : Nat} {ps : List Str} {sp : SpG} {e : Expr} {es : List Expr} {t : TA} {p p2 pos pos2 : Pos}
theorem noStop0 {K : PySem.W.Frag} : NoStop K E0 := fun _ _ _ h => False.elim h
/-- list(f(e, ..)) -/
theorem pe_listOwnG (O : OwnG X.prog X.w X.K X.mg X.base x k ps sp) (hr : Room (k + 3) X.A) (ha : PA X (e :: es) t) (hmg : X.mg nm = none) (hgl : Gl X nm := by rfl) (hg : Gl X x := by rfl) (hv : bootBuiltins nm = some (.type "list") := by decide +kernel) (hnm : nm ≠ "__name__" := by decide) (hdb : (nm == ("__debug__" : Str)) = false := by decide) (hdb2 : (x == ("__debug__" : Str)) = false := by decide)
    (he : starEach (e :: es) X.env = (false, eval e X.env) :: starEach es X.env := by rfl) (hpl : (backTo pos (starEach es X.env)).any (·.1) = false := by rfl)
    (he2 : starEach [Expr.Call (.Name x p) (e :: es) [] pos] X.env = (false, eval (Expr.Call (.Name x p) (e :: es) [] pos) X.env) :: starEach [] X.env := by rfl) : PE X (.Call (.Name nm p2) [.Call (.Name x p) (e :: es) [] pos] [] pos2) (tListG (tCallG sp [] E0 t)) := by
  obtain ⟨f, fd, F, hm, hk, hb⟩ := O.ex
  exact pe_listG (pgen_call F (hr.mono (by omega)) hg hm hk hb .nil ha hdb2 he hpl) passL noStop0 hr hgl hmg hv hnm hdb he2
end
section
variable {K : PySem.W.Frag} {g : TG} {tb : TGn} {D : GEnds} {ys : List V} {σ : St} {H : Hp}
theorem gfor_range {lo : Int} {n : Nat} (Pv : Nat → List V → St → Hp → Prop) (h0 : Pv 0 ys σ H) (hs : ∀ i ys σ H, i < n → Pv i ys σ H → g (.int (lo + i)) σ H fun σ2 H2 => tb { D with nx := Pv (i + 1), ct := Pv (i + 1), bk := D.nx } ys σ2 H2) (hd : ∀ ys σ H, Pv n ys σ H → D.nx ys σ H) :
    ∃ W : Nat → Nat → List V → St → Hp → Prop, (∃ m, W 0 m ys σ H) ∧ ∀ i m ys σ H, W i m ys σ H →
      ((Itr lo n).stop i H ∧ D.nx ys σ H) ∨ ((Itr lo n).go i H ∧ ∃ N : List V → St → Hp → Prop, (∀ ys' σ' H', N ys' σ' H' → ∃ m', m' < m ∧ W (i + 1) m' ys' σ' H') ∧ ∀ x H', (Itr lo n).yld i H x H' → g x σ H' fun σ2 H2 => tb { D with nx := N, ct := N, bk := D.nx } ys σ2 H2) := by
  refine ⟨fun i m ys σ H => m = n - i ∧ i ≤ n ∧ Pv i ys σ H, ⟨n - 0, rfl, Nat.zero_le _, h0⟩, ?_⟩
  rintro i m ys σ H ⟨rfl, hi, pv⟩
  by_cases hlt : i < n
  · refine .inr ⟨hlt, Pv (i + 1), fun ys' σ' H' q => ⟨n - (i + 1), by omega, rfl, hlt, q⟩, fun x H' hy => ?_⟩
    obtain ⟨rfl, rfl⟩ := hy
    exact hs i ys σ _ hlt pv
  · have e : i = n := by omega
    subst e
    exact .inl ⟨Nat.le_refl _, hd ys σ H pv⟩
theorem gfor_list {a : Addr} {xs : List V} (Pv : Nat → List V → St → Hp → Prop) (h0 : Pv 0 ys σ H) (hl : ∀ i ys σ H, i ≤ xs.length → Pv i ys σ H → SqL K H a xs) (hs : ∀ i x ys σ H, xs[i]? = some x → Pv i ys σ H → g x σ H fun σ2 H2 => tb { D with nx := Pv (i + 1), ct := Pv (i + 1), bk := D.nx } ys σ2 H2) (hd : ∀ ys σ H, Pv xs.length ys σ H → D.nx ys σ H) :
    ∃ W : Nat → Nat → List V → St → Hp → Prop, (∃ m, W 0 m ys σ H) ∧ ∀ i m ys σ H, W i m ys σ H →
      ((Itl K a).stop i H ∧ D.nx ys σ H) ∨ ((Itl K a).go i H ∧ ∃ N : List V → St → Hp → Prop, (∀ ys' σ' H', N ys' σ' H' → ∃ m', m' < m ∧ W (i + 1) m' ys' σ' H') ∧ ∀ x H', (Itl K a).yld i H x H' → g x σ H' fun σ2 H2 => tb { D with nx := N, ct := N, bk := D.nx } ys σ2 H2) := by
  refine ⟨fun i m ys σ H => m = xs.length - i ∧ i ≤ xs.length ∧ Pv i ys σ H, ⟨xs.length - 0, rfl, Nat.zero_le _, h0⟩, ?_⟩
  rintro i m ys σ H ⟨rfl, hi, pv⟩
  have hq := hl i ys σ H hi pv
  by_cases hlt : i < xs.length
  · have hx : xs[i]? = some xs[i] := List.getElem?_eq_getElem hlt
    refine .inr ⟨⟨xs, xs[i], hq, hx⟩, Pv (i + 1), fun ys' σ' H' q => ⟨xs.length - (i + 1), by omega, rfl, hlt, q⟩, fun x H' hy => ?_⟩
    obtain ⟨rfl, hy⟩ := hy
    exact hs i x ys σ _ (hy xs hq) pv
  · have e : i = xs.length := by omega
    subst e
    exact .inl ⟨⟨xs, hq, Nat.le_refl _⟩, hd ys σ H pv⟩
theorem gfor_tup {a : Addr} {xs : List V} (Pv : Nat → List V → St → Hp → Prop) (h0 : Pv 0 ys σ H) (hl : ∀ i ys σ H, i ≤ xs.length → Pv i ys σ H → SqT K H a xs) (hs : ∀ i x ys σ H, xs[i]? = some x → Pv i ys σ H → g x σ H fun σ2 H2 => tb { D with nx := Pv (i + 1), ct := Pv (i + 1), bk := D.nx } ys σ2 H2) (hd : ∀ ys σ H, Pv xs.length ys σ H → D.nx ys σ H) :
    ∃ W : Nat → Nat → List V → St → Hp → Prop, (∃ m, W 0 m ys σ H) ∧ ∀ i m ys σ H, W i m ys σ H →
      ((Itt K a).stop i H ∧ D.nx ys σ H) ∨ ((Itt K a).go i H ∧ ∃ N : List V → St → Hp → Prop, (∀ ys' σ' H', N ys' σ' H' → ∃ m', m' < m ∧ W (i + 1) m' ys' σ' H') ∧ ∀ x H', (Itt K a).yld i H x H' → g x σ H' fun σ2 H2 => tb { D with nx := N, ct := N, bk := D.nx } ys σ2 H2) := by
  refine ⟨fun i m ys σ H => m = xs.length - i ∧ i ≤ xs.length ∧ Pv i ys σ H, ⟨xs.length - 0, rfl, Nat.zero_le _, h0⟩, ?_⟩
  rintro i m ys σ H ⟨rfl, hi, pv⟩
  have hq := hl i ys σ H hi pv
  by_cases hlt : i < xs.length
  · have hx : xs[i]? = some xs[i] := List.getElem?_eq_getElem hlt
    refine .inr ⟨⟨xs, xs[i], hq, hx⟩, Pv (i + 1), fun ys' σ' H' q => ⟨xs.length - (i + 1), by omega, rfl, hlt, q⟩, fun x H' hy => ?_⟩
    obtain ⟨rfl, hy⟩ := hy
    exact hs i x ys σ _ (hy xs hq) pv
  · have e : i = xs.length := by omega
    subst e
    exact .inl ⟨⟨xs, hq, Nat.le_refl _⟩, hd ys σ H pv⟩
end
end L2

set_option Elab.async false
set_option linter.all false
set_option maxRecDepth 100000
set_option maxHeartbeats 4000000
/-! ==, not in over data, the kit's own part named -/
namespace L2
open PySem PySem.Spec PyProof.Rows
section
variable {X : Cx} {K : PySem.W.Frag}
theorem op_eqDK (h : X.K = K) (hu : X.A.units + 64 < cLine) : OpR X (compareOp .Eq) (rEqD K) := by
  subst h
  exact op_eqD hu
theorem op_neDK (h : X.K = K) (hu : X.A.units + 64 < cLine) : OpR X (compareOp .NotEq) (rNeD K) := by
  subst h
  exact op_neD hu
theorem op_inDK (h : X.K = K) (hu : X.A.units + 65 < cLine) : OpR X (compareOp .In) (rInD K) := by
  subst h
  exact op_inD hu
theorem op_notInDK (h : X.K = K) (hu : X.A.units + 65 < cLine) : OpR X (compareOp .NotIn) (rNotInD K) := by
  subst h
  exact op_notInD hu
end
end L2

set_option Elab.async false
set_option linter.all false
/-! all, any within comprehensions: the kit's own part named -/
namespace L2
open PySem PySem.Spec PyProof.Rows
section
variable {X : Cx} {K : PySem.W.Frag}
theorem cr_allK (h : X.K = K) (hc : X.calm = true) : CallR X (.builtin "all") (rAll K) := by
  subst h
  exact cr_all hc
theorem cr_anyK (h : X.K = K) (hc : X.calm = true) : CallR X (.builtin "any") (rAny K) := by
  subst h
  exact cr_any hc
end
end L2

set_option Elab.async false
set_option linter.all false
set_option maxRecDepth 100000
set_option maxHeartbeats 4000000
/-! own errors with one field whose own base is OverflowError -/
namespace L2
open PySem PySem.Spec PyProof.Rows
open Builtin Builtin.ObjectAttr PySem.W PySem.HandSPX
/-- what stands behind the class itself -/
abbrev ofBack : List Value := [.type "OverflowError", .type "ArithmeticError", .type "Exception", .type "BaseException", .type "object"]
theorem of_calm (self : Value) (C : Addr) : refuseLoop self "__setattr__" (.ref C :: ofBack) = pure () := by
  rw [refuseLoop_ref]
  exact PySem.F.store_OverflowError.passes self
theorem of_has (Y : String) (C : Addr) : (Value.ref C :: ofBack).contains (.type Y) = ofBack.contains (.type Y) := by
  rw [List.contains_cons]
  rfl
section
variable {prog : Program} {w : World} {A : Around} {R : Result → Shared → Prop} {hp : Heap} {g : Array GenState} {d : Drawn} {t : Nat} {os : OsState}
/-- the first field of such an error -/
theorem of_first {K : Frag} {nm : Str} {tk : Tok} {val : Value} {a C : Addr} {parts : Array Value} {cd : ClassData}
    (inK : K.In hp) (at_a : hp.get? a = some { cls := .ref C, data := .fields parts }) (at_C : clsIn K C = some cd) (line : cd.mro = .ref C :: ofBack) (dct : cd.hasDict = true) (free : findIn K (.ref C) nm = some none)
    (goal : ∀ hp2 tk2 dx, (∀ b o, b ≠ a → hp.get? b = some o → hp2.get? b = some o) → hp.objs.size ≤ dx → dx ≠ a → hp2.get? a = some { cls := .ref C, dict := some dx, data := .fields parts } →
      hp2.Ns1 dx (fun y => if y = nm then some val else none) → R (.ok (.ret .none)) ⟨hp2, g, d, tk2, os⟩) :
    codeAny (model prog w) A (.call (.builtin "object.__setattr__") ⟨[.ref a, .str nm tk, val], []⟩) R ⟨hp, g, d, t, os⟩ := by
  have here : InstAt hp a { cls := .ref C, data := .fields parts } C none := ⟨at_a, rfl, rfl, trivial⟩
  have facts := F.store_object
  have full : cd.mro.isEmpty = false := by rw [line]; rfl
  have top : cd.mro.contains (.type "object") = true := by rw [line, of_has]; decide +kernel
  have off : a ≠ hp.objs.size := Nat.ne_of_lt (Heap.lt_size at_a)
  have isObj : Looks (model prog w) hp (isInstance (.ref a) (.type "object")) true :=
    here.type.andThen (looks_mroIn inK (by unfold mroIn; rw [at_C, Option.bind_some, if_neg (by rw [full]; decide), top]))
  refine codeAny_call_builtin facts.slot.plain facts.entry
    (@check_slot (model prog w) _ _ ⟨hp, g, d, t, os⟩ "object.__setattr__" "object" "__setattr__" (.ref a) [.str nm tk, val] [] _ facts.kind facts.split isObj (facts.args (.ref a) (.str nm tk) val) ?_)
  have mroL : Looks (model prog w) hp (mroOf (.ref C)) cd.mro := (looks_clsIn inK at_C).andThen .now
  have taker : Looks (model prog w) hp (storeTaker? none) none := .now
  have data : Looks (model prog w) hp (classData C) cd := looks_clsIn inK at_C
  rw [osa_eq, refuse_eq]
  refine wpAny_bind (wpAny_bind (here.type.at (wpAny_bind (mroL.at ?_))))
  rw [line, of_calm]
  refine wpAny_pure (wpAny_bind (here.type.at (wpAny_bind ((looks_findIn inK free).at (wpAny_bind (taker.at ?_))))))
  show wpAny _ _ (storeInOwnDict (.ref a) (.ref C) (.str nm tk) nm val false) _ _ _
  obtain ⟨c1, c2, c3, c4, c5, c6, c7, c8, c9, c10, c11⟩ := cd
  dsimp only at dct
  subst dct
  unfold storeInOwnDict ownDictForStores
  repeat (first | with_reducible refine store_in_new ?_ ?_ | with_reducible refine wpAny_loadPart_at at_a ?_ | with_reducible refine data.at ?_ | wp_step)
  · exact ⟨_, #[], _, (Heap.get?_update_ne _ _ _ _ off.symm).trans (Heap.get?_push_at rfl rfl), rfl, fun e he => absurd he (by simp), fun _ => rfl⟩
  · intro hp2 tk2 ns2 same
    have at_a2 : (hp.push { cls := .type "dict", data := .dict #[] }).get? a = some { cls := .ref C, data := .fields parts } := Heap.get?_push_of_some _ at_a
    refine goal hp2 tk2 hp.objs.size (fun b o hb ho => ?_) (Nat.le_refl _) off.symm ?_ ns2
    · exact (same.2 b (Nat.ne_of_lt (Heap.lt_size ho))).trans ((Heap.get?_update_ne _ _ _ _ hb).trans (Heap.get?_push_of_some _ ho))
    · exact (same.2 a off).trans (Heap.get?_update_self _ at_a2 rfl)
end
/-- what the top has of such a class -/
structure OofC (K : PySem.W.Frag) (C : Addr) : Prop where
  cls : ∃ nm q N bs sn sub ab col dd k0 k1 k2 k3 k5, K.lookup C = some (excClassObj nm q C N bs ofBack true sn sub ab col dd k0 k1 k2 k3 k5 "OverflowError.__new__")
  sa : findIn K (.ref C) "__setattr__" = some (some (.builtin "object.__setattr__"))
  exC : subIn K (.ref C) (.type "BaseException") = some true
  tyC : typeIn K (.ref C) = some (.type "type")
  kC : keepIn K (.ref C) = true
section
variable {X : Cx} {pins : List (Addr × Obj)} {σ : St} {H : Hp} {s : Shared} {a C : Addr} {f : Str} {y : V} {u : Value} {Q : Unit → Shared → Prop} {E : Value → Shared → Prop} {A : Around}
theorem of_store (T : OofC X.K C) (I : Inv X pins σ H s) (e : H a = some (exo a C none)) (free : findIn X.K (.ref C) f = some none) (ry : RelV y u)
    (goal : ∀ dx s', H dx = none → dx ≠ a → Inv X pins σ (upd (upd H dx (exd dx [(f, y)])) a (exo a C (some dx))) s' → Q () s') : wpAny (model X.prog X.w) A (setAttr (.ref a) f u) Q E s := by
  obtain ⟨nm, q, N, bs, sn, sub, ab, col, dd, k0, k1, k2, k3, k5, at_C⟩ := T.cls
  have data : clsIn X.K C = some { name := nm, bases := bs, mro := .ref C :: ofBack, ns := N, qualname := q, hasDict := true, slotNames := sn, subclasses := sub, abstract := ab, collection := col, hasDel := false } := by
    unfold clsIn
    rw [at_C] <;> rfl
  obtain ⟨t1, ho⟩ := exo_at I.hok e
  obtain ⟨hp, g, d, t, os⟩ := s
  refine set_plain I.kIn (ox := { cls := .ref C, dict := none, data := .fields #[.ref t1, .none, .none, .none, .bool false, .none] }) (od := none) ⟨ho, rfl, rfl, trivial⟩ T.sa ?_
  refine of_first I.kIn ho data rfl rfl free fun hp2 tk2 dx k far ne at_a ns2 => ?_
  have none_dx : H dx = none := I.hok.fresh far
  have old : ∀ {b : Addr} {o : Obj}, hp.get? b = some o → b ≠ dx := fun {b o} z => Nat.ne_of_lt (Nat.lt_of_lt_of_le (Heap.lt_size z) far)
  have other : ∀ {b : Addr}, H b = none → b ≠ a := fun {b} z w => by
    rw [w, e] at z
    cases z
  have U : Un X.fs [] H (upd (upd H dx (exd dx [(f, y)])) a (exo a C (some dx))) hp hp2 :=
    ⟨fun b o z n _ _ => k b o (other n) z, fun b o z n _ _ => ⟨o.slots, k b o (other n) z⟩, fun b o z n _ => by rw [upd_ne (other n), upd_ne (old z)]; exact n,
      fun b o z _ => by
        by_cases hb : b = a
        · rw [hb]
          exact ⟨_, at_a⟩
        · exact ⟨o, k b o hb z⟩,
      fun b xs z => by rw [upd_ne (at_ne e z exo_tup), upd_ne (ne_of_none z none_dx)]; exact z,
      fun b o v z => by rw [upd_ne (at_ne e z exo_frz), upd_ne (ne_of_none z none_dx)]; exact z,
      fun b ps z => ⟨#[], by rw [upd_ne (at_ne e z exo_tbl), upd_ne (ne_of_none z none_dx), z]; simp⟩⟩
  refine goal dx _ none_dx ne (I.un (t' := tk2) U fun b o z => ?_)
  by_cases hb : b = a
  · subst hb
    rw [upd_same] at z
    cases z
    exact exo_ok at_a
  · rw [upd_ne hb] at z
    by_cases hd : b = dx
    · subst hd
      rw [upd_same] at z
      cases z
      exact exd_ok ns2 (relO_put (fs := []) ry fun _ => True.intro)
    · rw [upd_ne hd] at z
      refine (I.hok b o z).stay (fun c v hc w => k c v ?_ w) (fun c hc => ?_) fun c xs hc => ?_
      · rcases hc with hc | hc
        · rw [hc]
          exact hb
        · exact at_ne e hc exo_own
      · rw [upd_ne (at_ne e hc exo_own), upd_ne (ne_of_none hc none_dx)]
        exact hc
      · rw [upd_ne (at_ne e hc exo_tup), upd_ne (ne_of_none hc none_dx)]
        exact hc
end
/-- self.f = e, the one field -/
def tOstO (K : PySem.W.Frag) (f : Str) (to te : TE) : TS := fun D σ H => te σ H fun y H1 => to σ H1 fun x H2 => ∃ a C : Addr, x = .ref a ∧ OofC K C ∧ findIn K (.ref C) f = some none ∧
  H2 a = some (exo a C none) ∧ ∀ dx, H2 dx = none → dx ≠ a → D.nx σ (upd (upd H2 dx (exd dx [(f, y)])) a (exo a C (some dx)))
section
variable {X : Cx} {o e : Expr} {es : List Expr} {to te : TE} {ta : TA} {f : Str} {p p' pos : Pos}
theorem ps_ostO (ho : PE X o to) (he : PE X e te) (hs : swapsWith e (some (.Attribute o f p')) pos.line X.env = pure false := by rfl) : PS X (.Assign [.Attribute o f p'] e pos) (tOstO X.K f to te) := by
  refine ⟨fun pins s σ H D I h => ?_⟩
  refine plainObj_wpAny_Assign_Attribute (thn (he.run pins s σ H _ I h) fun v s1 ⟨y, H1, I1, r1, q1⟩ => thn (ho.run pins s1 σ H1 _ I1 q1) fun u s2 ⟨x, H2, I2, r2, a, C, ex, T, free, ea, q⟩ => ?_) hs
  subst ex
  obtain rfl : u = Value.ref a := r2
  exact of_store T I2 ea free r1 fun dx s' n ne J => ⟨σ, _, J, q dx n ne⟩
/-- C(e, ..) of such a class -/
theorem pmk_oof {CX : CXT} {x : Str} {C fI : Addr} {k : Nat} {fd : FuncData} {ps : List Str} {sp : Sp} {ds : List Value} {dvs : List V} (T : OofC X.K C) (hasI : findIn X.K (.ref C) "__init__" = some (some (.ref fI))) (isF : typeIn X.K (.ref fI) = some (.type "function"))
    (G : FnOk X.prog X.w X.K X.mg X.base CX k fI fd ps sp) (room : Room (k + 1) X.A) (bind : Binds X.K fd ps ds) (dflt : Vals dvs ds) (pass : Passes CX X (fun _ _ _ => False)) (hg : Gl X x) (hm : X.mg x = some (.ref C)) (ha : PA X (e :: es) ta)
    (hdb : (x == ("__debug__" : Str)) = false := by decide) (he : starEach (e :: es) X.env = (false, eval e X.env) :: starEach es X.env := by rfl) (hpl : (backTo pos (starEach es X.env)).any (·.1) = false := by rfl) :
    PMk X (.Call (.Name x p) (e :: es) [] pos) (tMkO C sp dvs ta) := by
  intro pins s σ H Q I h
  obtain ⟨nm, q, N, bs, sn, sub, ab, col, dd, k0, k1, k2, k3, k5, at_C⟩ := T.cls
  refine wpAny_Call_Name_kw (ld_glob I hg hm ?_ hdb)
  refine callWith_K (h₀ := X.base) I.ok.mod.kin T.kC (thn (ha.run pos pins s σ H _ I h) fun us s1 ⟨vs, H1, I1, r1, hz, q1⟩ => ⟨I1.kIn, ?_⟩) he hpl
  show wpAny _ _ (call (.ref C) us) _ _ _
  obtain ⟨hp, g, dr, tk, os⟩ := s1
  have up1 : hp.objs.size ≤ hp.objs.size + 1 := Nat.le_succ _
  have free1 : H1 (hp.objs.size + 1) = none := I1.hok.fresh up1
  have want := q1 (hp.objs.size + 1) free1
  have kk : ∀ b o, hp.get? b = some o → ((hp.push (kdv_tup us)).push (excO C hp.objs.size)).get? b = some o := fun b o z => Heap.get?_push_of_some _ (Heap.get?_push_of_some _ z)
  have there : ((hp.push (kdv_tup us)).push (excO C hp.objs.size)).get? (hp.objs.size + 1) = some (excO C hp.objs.size) := by heap_get
  have I2 : Inv X pins σ (upd H1 (hp.objs.size + 1) (exo (hp.objs.size + 1) C none)) ⟨(hp.push (kdv_tup us)).push (excO C hp.objs.size), g, dr, tk, os⟩ :=
    I1.laid (t' := tk) (a := hp.objs.size + 1) (o := exo (hp.objs.size + 1) C none) (h' := (hp.push (kdv_tup us)).push (excO C hp.objs.size)) kk up1 (exo_ok there)
  have r2 : Vals (V.ref (hp.objs.size + 1) :: (vs ++ dvs)) (Value.ref (hp.objs.size + 1) :: (us ++ ds)) := .cons rfl (r1.append dflt)
  have many : (Value.ref (hp.objs.size + 1) :: us ++ ds).length = ps.length := by
    have z := r2.length
    rw [G.len _ _ _ _ want] at z
    exact z.symm
  have small : us.length ≤ sizeLine := by
    rw [← Paired.length r1, sizeLine_eq]
    omega
  refine wpAny_call (call_own F.excBase_OverflowError (fun Y => rfl) (I1.kIn _ _ at_C) (looks_findIn I1.kIn hasI) (fun self => bind_fn I1.kIn self isF) small
    (codeAny_mono (G.run _ X.stack _ _ ⟨Value.ref (hp.objs.size + 1) :: us, []⟩ (Value.ref (hp.objs.size + 1) :: (us ++ ds)) _ _ (fun _ _ _ => False) (room.make C us []) (I2.env0.make C us []) (bind _ (Value.ref (hp.objs.size + 1) :: us) I2.kIn many) r2 want) fun r s' hq' => ?_))
  cases r with
  | error er => exact pass pins σ _ _ er s' I2 hq'
  | ok fl =>
    cases fl with
    | ret u =>
      obtain ⟨v, H2, os2, bare2, un2, hok2, rv, ev, dd, fs, ea, ed, hd1, q2⟩ := hq'
      subst ev
      obtain ⟨h2, g2, d2, t2, os'⟩ := s'
      exact ⟨rv, mk_end (raises_own T.exC T.tyC) I1 up1 kk un2 hok2 os2 bare2 ea ed hd1 q2⟩
    | next => exact False.elim hq'
    | brk => exact False.elim hq'
    | cont => exact False.elim hq'
end
/-- all that is asked of the class x of such errors at C, whose field is f -/
structure OCls (P : Program) (w : World) (K : PySem.W.Frag) (mg : Str → Option Value) (base : Heap) (x f : Str) (C : Addr) : Prop where
  ox : OofC K C
  gC : mg x = some (.ref C)
  noA : findIn K (.ref C) f = some none
  ec : ExcC K C
  ini : ∃ (fI : Addr) (fd : FuncData), findIn K (.ref C) "__init__" = some (some (.ref fI)) ∧ typeIn K (.ref fI) = some (.type "function") ∧ FnOk P w K mg base CX0 1 fI fd ["self", f] (spXI C f) ∧ Binds K fd ["self", f] []
theorem OCls.xf {P : Program} {w : World} {K : PySem.W.Frag} {mg : Str → Option Value} {base : Heap} {x f : Str} {C : Addr} (T : OCls P w K mg base x f C) : XfC K C := ⟨T.ec.hg, T.ec.hk, T.ec.hs, T.ec.hd⟩
theorem pmk_O {X : Cx} {C : Addr} {x f : Str} {e : Expr} {te : TE} {p pos : Pos} (T : OCls X.prog X.w X.K X.mg X.base x f C) (room : Room 2 X.A) (he : PE X e te) (hg : Gl X x) (hdb : (x == ("__debug__" : Str)) = false := by decide)
    (hs : starEach [e] X.env = (false, eval e X.env) :: starEach [] X.env := by rfl) (hpl : (backTo pos (starEach [] X.env)).any (·.1) = false := by rfl) :
    PMk X (.Call (.Name x p) [e] [] pos) (tMkO C (spXI C f) [] (tCons te tNil)) := by
  obtain ⟨fI, fd, i1, i2, G, b⟩ := T.ini
  exact pmk_oof (dvs := []) (ds := []) T.ox i1 i2 G room b .nil pass0 hg T.gC (pa_cons he pa_nil hs) hdb hs hpl
/-- what the top has written of it -/
structure XOt (K : PySem.W.Frag) (mg : Str → Option Value) (x f : Str) (C : Addr) (st : Stmt) (qual : Str) : Prop where
  ox : OofC K C
  gC : mg x = some (.ref C)
  noA : findIn K (.ref C) f = some none
  ec : ExcC K C
  tI : ∃ fI, findIn K (.ref C) "__init__" = some (some (.ref fI)) ∧ typeIn K (.ref fI) = some (.type "function") ∧ ∃ fd, Fun K "__init__" qual st fI fd ∧ Binds K fd ["self", f] []
theorem XOt.cls {P : Program} {w : World} {K : PySem.W.Frag} {mg : Str → Option Value} {base : Heap} {x f : Str} {C : Addr} {st : Stmt} {qual : Str} (T : XOt K mg x f C st qual) (h : ∀ fI fd, Fun K "__init__" qual st fI fd → FnOk P w K mg base CX0 1 fI fd ["self", f] (spXI C f)) :
    OCls P w K mg base x f C := by
  obtain ⟨fI, i1, i2, fd, G, b⟩ := T.tI
  exact ⟨T.ox, T.gC, T.noA, T.ec, fI, fd, i1, i2, h fI fd G, b⟩
end L2

set_option Elab.async false
set_option linter.all false
set_option maxRecDepth 100000
/-! the bookkeeping of a walk over a list, whatever a turn's reading is -/
namespace L2
open PySem PySem.Spec PyProof.Rows
theorem steps_list {K : PySem.W.Frag} {a : Addr} {xs : List V} {H0 : Hp} {Qd : Hp → Prop} {step : V → Hp → (Hp → Prop) → Prop} (Pv : Nat → Hp → Prop) (h0 : Pv 0 H0) (hl : ∀ i H, i ≤ xs.length → Pv i H → SqL K H a xs)
    (hs : ∀ i x H, xs[i]? = some x → Pv i H → step x H (Pv (i + 1))) (hd : ∀ H, Pv xs.length H → Qd H) :
    ∃ W : Nat → Nat → Hp → Prop, (∃ m, W 0 m H0) ∧ ∀ i m H, W i m H →
      ((Itl K a).stop i H ∧ Qd H) ∨ ((Itl K a).go i H ∧ ∃ N : Hp → Prop, (∀ H', N H' → ∃ m', m' < m ∧ W (i + 1) m' H') ∧ ∀ x H', (Itl K a).yld i H x H' → step x H' N) := by
  refine ⟨fun i m H => m + i = xs.length ∧ Pv i H, ⟨xs.length, rfl, h0⟩, ?_⟩
  rintro i m H ⟨hm, pv⟩
  have q := hl i H (by omega) pv
  rcases Nat.lt_or_ge i xs.length with h | h
  · have hx : xs[i]? = some xs[i] := List.getElem?_eq_getElem h
    refine .inr ⟨⟨xs, xs[i], q, hx⟩, Pv (i + 1), fun H' pv' => ⟨m - 1, by omega, by omega, pv'⟩, fun x H' y => ?_⟩
    obtain ⟨y1, y2⟩ := y
    subst y1
    exact hs i x _ (y2 xs q) pv
  · obtain rfl : i = xs.length := by omega
    exact .inl ⟨⟨xs, q, Nat.le_refl _⟩, hd H pv⟩
def rLenK (K : PySem.W.Frag) : List V → Hp → VK → Prop := fun xs H Q => ∃ p ys, xs = [.ref p] ∧ (SqL K H p ys ∨ SqT K H p ys) ∧ Q (.int ys.length) H
theorem call_len_seqK {X : Cx} {K : PySem.W.Frag} (h : X.K = K) : CallR X (.builtin "len") (rLenK K) := by
  subst h
  exact call_len_seq
end L2

set_option Elab.async false
set_option linter.all false
set_option maxRecDepth 100000
set_option maxHeartbeats 4000000
/-! list(f(..)) of a generator def that may raise, in a try -/
namespace L2
open PySem PySem.Spec PyProof.Rows GenW
def tListGS (tg : XK → TGen) (E : St → XK) : TE := fun σ H Q => tg (E σ) σ H fun out H2 => ∀ p, H2 p = none → Q (.ref p) (upd H2 p (.lst out))
section
variable {X : Cx} {k : Nat} {p p2 pos pos2 : Pos} {e : Expr} {x nm : Str} {es : List Expr}
theorem pe_listGS {tg : XK → TGen} {E : St → XK} (made : ∀ E, PGen X k e (tg E) E) (pass : ∀ σ, PassesAt (CX X.prog X.w) X σ (E σ)) (nostop : ∀ σ, NoStop X.K (E σ)) (room : Room (k + 3) X.A) (hg : Gl X nm) (hmg : X.mg nm = none) (hv : bootBuiltins nm = some (.type "list"))
    (hnm : nm ≠ "__name__" := by decide) (hdb : (nm == ("__debug__" : Str)) = false := by decide) (he : starEach [e] X.env = (false, eval e X.env) :: starEach [] X.env := by rfl) : PE X (.Call (.Name nm p) [e] [] pos) (tListGS tg E) := by
  refine ⟨fun pins st σ H Q I want => ?_⟩
  refine wpAny_Call_Name_kw (ld_blt I hg hmg hv ?_ hnm hdb)
  refine PyProof.Rows.callWith_type1 ?_ he rfl
  rw [he]
  show wpAny _ _ (spliced ((false, eval e X.env) :: backTo pos (starEach [] X.env))) _ _ st
  refine Calls.spliced_cons (thn ((made (E σ)).run pins st σ H _ I want) fun u st1 ⟨H1, sc, ex, I1, exOk, gen⟩ => ?_)
  refine Calls.spliced_nil ?_
  have grown : sc.heap.objs.size ≤ st1.heap.objs.size := by
    obtain ⟨a, g, c, _, g1, g2, _⟩ := gen
    exact Nat.le_trans g1 (Nat.le_of_lt g2)
  refine call_list_new room I1.ok.frames gen (fun S st2 acc c H' ys a0 a1 a2 a3 a4 a5 a6 a7 a8 a9 => ?_) fun er st2 g left => ?_
  · exact ⟨.ref S, upd H' S (.lst ys), I1.drained (Nat.le_trans grown a0) a3 a1 a2 exOk a4 a5 a6 a7 a8, rfl, a9 S a8⟩
  · have kin : X.K.In st2.heap := by
      obtain ⟨a, B, H', cls, d, _, fl, _, ub, _⟩ := id left
      refine I1.ok.mod.kin.keeps fun b o eb => fl.1 b o (ub.keep b o (I1.bs b o eb).1 (I1.bs b o eb).2 fun hm => ?_)
      rcases List.mem_cons.mp (I1.stkSub b hm) with z | z
      · have z1 := Heap.lt_size eb
        have z2 := Nat.le_trans I1.ok.bsz I1.ok.above
        rw [z] at z1
        exact absurd (Nat.lt_of_lt_of_le z1 z2) (Nat.lt_irrefl _)
      · exact I1.ok.nofr eb z
    refine ⟨notStop_of (nostop σ) kin left, pass σ pins H1 sc er _ I1 ?_⟩
    obtain ⟨a, B, H', cls, d, z1, fl, z2, ub, z3, z4, z5, z6⟩ := left
    exact ⟨a, B, H', cls, d, z1, fl, z2, ub, z3, z4, allBare_setGen z5 rfl, z6⟩
/-- what is wished for, of errors that are no StopIteration -/
def noStopW (K : PySem.W.Frag) (W : WX) : WX := fun cls d σ H => PySem.W.subIn K cls (.type "StopIteration") = some false ∧ W cls d σ H
theorem pe_listOwnGS {ps : List Str} {sp : SpG} {t : TA} {W : WX} (O : OwnG X.prog X.w X.K X.mg X.base x k ps sp) (room : Room (k + 3) X.A) (tk : Takes X W) (ha : PA X (e :: es) t) (hmg : X.mg nm = none) (hgl : Gl X nm := by rfl) (hg : Gl X x := by rfl) (hv : bootBuiltins nm = some (.type "list") := by decide +kernel)
    (hnm : nm ≠ "__name__" := by decide) (hdb : (nm == ("__debug__" : Str)) = false := by decide) (hdb2 : (x == ("__debug__" : Str)) = false := by decide)
    (he : starEach (e :: es) X.env = (false, eval e X.env) :: starEach es X.env := by rfl) (hpl : (backTo pos (starEach es X.env)).any (·.1) = false := by rfl)
    (he2 : starEach [Expr.Call (.Name x p) (e :: es) [] pos] X.env = (false, eval (Expr.Call (.Name x p) (e :: es) [] pos) X.env) :: starEach [] X.env := by rfl) :
    PE X (.Call (.Name nm p2) [.Call (.Name x p) (e :: es) [] pos] [] pos2) (tListGS (fun E => tCallG sp [] E t) (WE (noStopW X.K W))) := by
  obtain ⟨f, fd, F, hm, hk, hb⟩ := O.ex
  exact pe_listGS (fun E => pgen_call (E := E) F (room.mono (by omega)) hg hm hk hb .nil ha hdb2 he hpl) (fun σ => passAt (tk.imp fun _ _ _ _ h => h.2) σ) (fun σ cls d H h => h.1) room hgl hmg hv hnm hdb he2
theorem pe_listOwnGSK {K : PySem.W.Frag} {ps : List Str} {sp : SpG} {t : TA} {W : WX} (hK : X.K = K) (O : OwnG X.prog X.w X.K X.mg X.base x k ps sp) (room : Room (k + 3) X.A) (tk : Takes X W) (ha : PA X (e :: es) t) (hmg : X.mg nm = none) (hgl : Gl X nm := by rfl) (hg : Gl X x := by rfl) (hv : bootBuiltins nm = some (.type "list") := by decide +kernel)
    (hnm : nm ≠ "__name__" := by decide) (hdb : (nm == ("__debug__" : Str)) = false := by decide) (hdb2 : (x == ("__debug__" : Str)) = false := by decide)
    (he : starEach (e :: es) X.env = (false, eval e X.env) :: starEach es X.env := by rfl) (hpl : (backTo pos (starEach es X.env)).any (·.1) = false := by rfl)
    (he2 : starEach [Expr.Call (.Name x p) (e :: es) [] pos] X.env = (false, eval (Expr.Call (.Name x p) (e :: es) [] pos) X.env) :: starEach [] X.env := by rfl) :
    PE X (.Call (.Name nm p2) [.Call (.Name x p) (e :: es) [] pos] [] pos2) (tListGS (fun E => tCallG sp [] E t) (WE (noStopW K W))) := by
  subst hK
  exact pe_listOwnGS O room tk ha hmg hgl hg hv hnm hdb hdb2 he hpl he2
end
section
variable {X : Cx} {K : PySem.W.Frag}
theorem op_ltTK (h : X.K = K) (hu : X.A.units < cLine) : OpR X (compareOp .Lt) (rLtT K) := by
  subst h
  exact op_ltT hu
end
end L2

set_option Elab.async false
set_option linter.all false
set_option maxRecDepth 100000
set_option maxHeartbeats 4000000
/-! set(list of ints) as a value; a tuple read backwards -/
namespace L2
open PySem PySem.Spec PyProof.Rows
section
variable {P : Program} {w : World} {A : Around} {E : Value → Shared → Prop} {s : Shared}
/-- the object that set(..) begins with -/
abbrev bareSet (w : World) : Obj := { cls := .type "set", dict := none, data := .set #[] 0 (.fresh 0 0 (!w.params.followText "set-order")) }
theorem set_of_list {l : Addr} {items : Array Value} (ns : List Int) {Q : Value → Shared → Prop} (calm : A.handled = none) (isL : s.heap.IsList l items) (areI : IntsAre items.toList ns) (few : ns.length + 1 < scanBound)
    (goal : ∀ (hp : Heap) (tk c : Nat), SetR w hp s.heap.objs.size (fun j => decide (j ∈ ns)) c → c ≤ ns.length → (∀ b o, s.heap.get? b = some o → hp.get? b = some o) → Q (.ref s.heap.objs.size) { s with heap := hp, toks := tk }) :
    wpAny (model P w) A (call (.type "set") [.ref l]) Q E s := by
  have same : items.size = ns.length := by
    have z := IntsAre.length areI
    rw [Array.length_toList] at z
    exact z
  obtain ⟨c, tl, mroS⟩ := F.called_set.mro
  have madeS := F.called_set.made
  have subS := F.called_set.sub
  refine wpAny_call (codeAny_of_tree ?_)
  show wpAny _ _ (callAny (.type "set") _) _ _ _
  refine wpAny_pure ⟨Code.quiet_builtin _ (by decide +kernel), codeAny_builtin F.entry_type_call ?_⟩
  rw [Around.under_plain (weight_type_call_type "set" [.ref l] []) rfl]
  have noT := F.called_set.notType
  have canC := F.called_set.canCreate
  have tcs := F.typeCall_set_1 (.ref l)
  repeat (any_goals (first | assumption | wp_step))
  refine codeAny_mono (code_set_led1 (.ref l) (E := E) (Q₁ := fun v st => v = .ref s.heap.objs.size ∧ st = { s with heap := s.heap.push (bareSet w) }) ⟨rfl, rfl⟩) fun r st back => ?_
  cases r with
  | error e => exact back
  | ok fl =>
    cases fl with
    | next => exact back.elim
    | brk => exact back.elim
    | cont => exact back.elim
    | ret v =>
      obtain ⟨rfl, rfl⟩ := back
      have atS : (s.heap.push (bareSet w)).get? s.heap.objs.size = some (bareSet w) := Heap.get?_push_size _ rfl
      have tyS : Shared.TypeIs { s with heap := s.heap.push (bareSet w) } (.ref s.heap.objs.size) "set" := ⟨_, atS, rfl⟩
      have iniL := F.called_set.init.lookup
      have iniB := F.called_set.init.bind (.ref s.heap.objs.size)
      repeat (any_goals (first | assumption | wp_step))
      refine codeAny_mono (codeAny_call_builtin (R := wants (fun r st2 => r = .none ∧ ∃ hp tk c, st2 = { s with heap := hp, toks := tk } ∧ SetR w hp s.heap.objs.size (fun j => decide (j ∈ ns)) c ∧ c ≤ ns.length ∧
        (∀ b o, s.heap.get? b = some o → hp.get? b = some o)) E) F.called_set.init.plain F.entry_set_init (check_set_init_1 tyS ?_)) fun r2 st2 back2 => ?_
      · obtain ⟨ol, atL, clL, nl, daL⟩ := isL
        obtain ⟨o1, o2, o3, o4⟩ := ol
        simp only at clL daL
        subst clL; subst daL
        have atL2 : (s.heap.push (bareSet w)).get? l = some { cls := .type "list", dict := o2, data := .seq items nl, slots := o4 } := Heap.get?_push_of_some _ atL
        have sub1 := F.sub_list_set
        have sub2 := F.sub_list_frozenset
        have ne1 : (Value.type "list" == Value.type "dict") = false := by decide
        have isL2 : (s.heap.push (bareSet w)).IsList l items := ⟨_, atL2, rfl, nl, rfl⟩
        unfold Builtin.«set.__init__» noKeywords Builtin.Frozenset.updateFrom
        generalize hold : pyIter = PI
        wp_walk
        subst hold
        refine wpAny_pyIter_list isL2 ?_
        refine wpAny_bind (wpAny_runValue ?_)
        have below : l < s.heap.objs.size := Heap.lt_size atL
        have calm3 : A.in1.in1.in1.handled = none := by simp [calm]
        have apart : l ≠ (s.heap.push (bareSet w)).objs.size := by
          rw [Heap.size_push]
          exact Nat.ne_of_lt (Nat.lt_succ_of_lt below)
        have outside : s.heap.objs.size ∉ [(s.heap.push (bareSet w)).objs.size, l] := by
          rw [Heap.size_push]
          simp only [List.mem_cons, List.mem_singleton, List.not_mem_nil, or_false, not_or]
          exact ⟨Nat.ne_of_lt (Nat.lt_succ_self _), Nat.ne_of_gt below⟩
        have each : ∀ (i : Nat) (v : Value), items[i]? = some v → ∃ k t, ns[i]? = some k ∧ v = .int k t := fun i v hv => by
          have hi : i < ns.length := by rw [← same]; exact (Array.getElem?_eq_some_iff.mp hv).1
          obtain ⟨t, e⟩ := PyProof.Rows.IntsAre.int_at areI i v (by rw [Array.getElem?_toList]; exact hv)
          refine ⟨ns[i], t, List.getElem?_eq_getElem hi, ?_⟩
          rw [e, List.getD_eq_getElem?_getD, List.getElem?_eq_getElem hi] <;> rfl
        refine set_update_ints ((Walks.list calm3 _ l apart items).toS) s.heap.objs.size outside ns same few each (items.size - 0) 0 _ (by omega) (Nat.zero_le _) ⟨⟨_, Heap.get?_push_size _ rfl, rfl, rfl⟩, (isL2.push _)⟩ ?begin ?done
        case begin => exact ⟨0, Nat.le_refl 0, setR_new_at (Heap.get?_push_of_some _ atS)⟩
        case done =>
          intro st3 c3 mv lec isS
          obtain ⟨hp, g3, d3, tk, os3⟩ := st3
          have eg : g3 = s.gens := mv.gens
          have ed : d3 = s.drawn := mv.drawn
          have eo : os3 = s.os := mv.os
          subst eg; subst ed; subst eo
          show wpAny _ _ _ _ _ _
          refine wpAny_pure ?_
          show wpAny _ _ (ret Value.none) _ _ _
          rw [same] at lec
          refine wpAny_pure ⟨rfl, hp, tk, c3, rfl, isS, lec, fun b o e => ?_⟩
          have b0 : b < s.heap.objs.size := Heap.lt_size e
          have b2 : b ≠ (s.heap.push (bareSet w)).objs.size := by
            rw [Heap.size_push]
            exact Nat.ne_of_lt (Nat.lt_succ_of_lt b0)
          exact mv.heap b o (by simp only [List.mem_cons, List.mem_singleton, List.not_mem_nil, or_false, not_or]; exact ⟨Nat.ne_of_lt b0, b2⟩) (Heap.get?_push_of_some _ (Heap.get?_push_of_some _ e))
      · cases r2 with
        | error e => exact back2
        | ok fl2 =>
          cases fl2 with
          | next => exact back2.elim
          | brk => exact back2.elim
          | cont => exact back2.elim
          | ret r =>
            obtain ⟨rfl, hp, tk, c3, rfl, isS, lec, keep⟩ := back2
            repeat (any_goals (first | assumption | wp_step))
            exact goal _ _ _ isS lec keep
end
def rSetLI (K : PySem.W.Frag) (w : World) : List V → Hp → VK → Prop := fun xs H Q => ∃ (l : Addr) (ns : List Int), xs = [.ref l] ∧ SqL K H l (ns.map V.int) ∧ ns.length ≤ 60 ∧ ∀ p c, H p = none → c ≤ ns.length → Q (.ref p) (upd H p (SetO w p (fun j => decide (j ∈ ns)) c))
theorem cr_setLI {X : Cx} (hc : X.calm = true) : CallR X (.type "set") (rSetLI X.K X.w) := by
  intro pins s σ H xs us Q I r h
  obtain ⟨l, ns, rfl, hq, small, q⟩ := h
  obtain ⟨u, rfl, rx⟩ := vals1 r
  cases rx
  obtain ⟨its, r2, pl, _⟩ := I.list hq
  refine set_of_list ns (I.ok.hd hc) pl.isList (by simpa using intsAre_of r2) (by unfold scanBound; omega) fun hp tk c isS lec keep => ?_
  exact ⟨.ref s.heap.objs.size, _, I.laid (t' := tk) keep (Nat.le_refl _) (setO_new isS), rfl, q _ c (I.hok.fresh (Nat.le_refl _)) lec⟩
end L2

set_option Elab.async false
set_option linter.all false
set_option maxRecDepth 100000
set_option maxHeartbeats 4000000
namespace L2
open PySem PySem.Spec PyProof.Rows
theorem back_places (n : Nat) : Builtin.Slice.slicePlaces ((n : Int) - 1) (-1) (-1) = n := by
  unfold Builtin.Slice.slicePlaces
  rw [if_neg (by omega)]
  by_cases h : ((n : Int) - 1) > -1
  · rw [if_pos h]
    have : ((n : Int) - 1 - -1 - 1) / (- -1) + 1 = (n : Int) := by
      rw [Int.neg_neg, Int.ediv_one]
      omega
    rw [this]
    exact Int.toNat_natCast n
  · rw [if_neg h]
    have : n = 0 := by omega
    rw [this]
    rfl
theorem back_pick (xs : Array Value) : ((List.range xs.size).filterMap fun (m : Nat) => xs[(((xs.size : Int) - 1) + (m : Int) * (-1)).toNat]?).toArray = xs.toList.reverse.toArray := by
  congr 1
  refine List.ext_getElem? fun i => ?_
  have hall : ∀ k, k ≤ xs.size → (List.range k).filterMap (fun (m : Nat) => xs[(((xs.size : Int) - 1) + (m : Int) * (-1)).toNat]?) = xs.toList.reverse.take k := fun k => by
    induction k with
    | zero => intro _; rfl
    | succ k ih =>
      intro hk
      rw [List.range_succ, List.filterMap_append, ih (by omega), List.take_add_one]
      congr 1
      have hi : (((xs.size : Int) - 1) + (k : Int) * (-1)).toNat = xs.size - 1 - k := by omega
      have hlt : xs.size - 1 - k < xs.size := by omega
      have hr : xs.toList.reverse[k]? = some xs[xs.size - 1 - k] := by
        rw [List.getElem?_reverse (by rw [Array.length_toList]; omega), Array.length_toList, Array.getElem?_toList]
        exact Array.getElem?_eq_getElem hlt
      rw [hr, List.filterMap_cons, hi, Array.getElem?_eq_getElem hlt]
      rfl
  rw [hall xs.size (Nat.le_refl _), List.take_of_length_le (by rw [List.length_reverse, Array.length_toList]; exact Nat.le_refl _)]
section
variable {prog : Program} {w : World} {A : Around} {E : Value → Shared → Prop} {s : Shared}
theorem slice_back {sl : Addr} {v1 v2 v3 : Value} {n : Nat} {Q : Int × Int × Nat → Shared → Prop} (isS : s.heap.IsSliceOf sl v1 v2 v3) (p1 : IsPart v1 none) (p2 : IsPart v2 none) (p3 : IsPart v3 (some (-1))) (goal : Q ((n : Int) - 1, -1, n) s) :
    wpAny (model prog w) A (Builtin.Slice.sliceApplied (.ref sl) (pure (n : Int))) Q E s := by
  obtain ⟨os, atS, clS, daS⟩ := id isS
  unfold Builtin.Slice.sliceApplied Builtin.Slice.sliceFields
  refine wpAny_bind (wpAny_bind (wpAny_field atS daS (x := v1) rfl (wpAny_bind (wpAny_field atS daS (x := v2) rfl (wpAny_bind (wpAny_field atS daS (x := v3) rfl (wpAny_pure ?_)))))))
  refine wpAny_bind (HT.slicePart_ p3 ?_)
  show wpAny _ _ (if ((-1 : Int) == 0) = true then _ else _) _ _ s
  rw [if_neg (by decide)]
  refine wpAny_bind (HT.slicePart_ p1 (wpAny_bind (HT.slicePart_ p2 (wpAny_bind (wpAny_pure ?_)))))
  show wpAny _ _ (pure ((n : Int) - 1, (-1 : Int), Builtin.Slice.slicePlaces ((n : Int) - 1) (-1) (-1))) _ _ s
  rw [back_places]
  exact wpAny_pure goal
theorem tuple_back {t sl : Addr} {items : Array Value} {v1 v2 v3 : Value} {Q : Value → Shared → Prop} (isT : IsTup s.heap t items) (isS : s.heap.IsSliceOf sl v1 v2 v3) (p1 : IsPart v1 none) (p2 : IsPart v2 none) (p3 : IsPart v3 (some (-1)))
    (goal : Q (.ref s.heap.objs.size) { s with heap := s.heap.push { cls := .type "tuple", data := .seq items.toList.reverse.toArray } }) (fits : items.size ≤ sizeLine) : wpAny (model prog w) A (getItem (.ref t) (.ref sl)) Q E s := by
  have okR : sizeOk (.seq items.toList.reverse.toArray) := by
    show items.toList.reverse.toArray.size ≤ sizeLine
    rw [List.size_toArray, List.length_reverse, Array.length_toList]
    exact fits
  obtain ⟨os, atS, clS, daS⟩ := id isS
  have tyS : s.TypeIs (.ref sl) "slice" := ⟨os, atS, clS⟩
  unfold getItem
  try with_reducible refine wpAny_holding ?_
  first | refine wpAny_bind (wpAny_pure ?_) | skip
  refine wpAny_bind (wpAny_sequenceKey isT.typeIs (by decide) ?_)
  refine wpAny_bind (wpAny_callSpecial?_slot (name := Str.ofString "__getitem__") isT.typeIs PyProof.Rows.slot_tuple_getitem (wpAny_call_entry PyProof.Rows.slot_tuple_getitem isT.typeIs entry_tuple_getitem ?_ (args_tuple_getitem _ _)))
  show wpAny _ _ (Builtin.Tuple.tupleItemsOf (.ref t) >>= _) _ _ s
  refine wpAny_bind (tupleItemsOf_ isT ?_)
  refine wpAny_bind (wpAny_typeOf tyS ?_)
  rw [if_pos (by decide)]
  refine wpAny_bind (slice_back isS p1 p2 p3 ?_)
  have no : ¬ ((((items.size : Int) - 1) == 0 && (-1 : Int) == 1 && items.size == items.size) = true) := by
    rw [show ((-1 : Int) == 1) = false by decide, Bool.and_false, Bool.false_and]
    exact Bool.false_ne_true
  show wpAny _ _ (if (((items.size : Int) - 1) == 0 && (-1 : Int) == 1 && items.size == items.size) = true then _ else _) _ _ s
  rw [if_neg no, back_pick]
  first
    | exact wpAny_bind (m := Builtin.Tuple.tupleExact _) (wpAny_newObj_type (wpAny_pure ⟨_, rfl, wpAny_pure goal⟩) okR)
    | exact wpAny_bind (m := Builtin.Tuple.tupleExact _) (wpAny_newObj_type (wpAny_bind (wpAny_pure (wpAny_pure ⟨_, rfl, wpAny_pure goal⟩))) okR)
    | exact wpAny_bind (wpAny_bind (m := Builtin.Tuple.tupleExact _) (wpAny_newObj_type (wpAny_pure (wpAny_pure ⟨_, rfl, wpAny_pure goal⟩)) okR))
    | exact wpAny_bind (wpAny_bind (m := Builtin.Tuple.tupleExact _) (wpAny_newObj_type (wpAny_pure ⟨_, rfl, wpAny_pure goal⟩) okR))
end
/-- t[::-1] -/
def tRevT (K : PySem.W.Frag) (te : TE) : TE := fun σ H Q => te σ H fun x H1 => ∃ a xs, x = .ref a ∧ SqT K H1 a xs ∧ ∀ p, H1 p = none → Q (.ref p) (upd H1 p (.tup xs.reverse))
theorem pe_revT {X : Cx} {e : Expr} {te : TE} {k : Nat} {p1 p2 p3 pos : Pos} (he : PE X e te) : PE X (.Subscript e (.Slice none none (some (.UnaryOp .USub (.Constant (.int 1) k p1) p2)) p3) pos) (tRevT X.K te) := by
  refine ⟨fun pins st σ H Q I want => ?_⟩
  refine Subscript_ (thn (he.run pins st σ H _ I want) fun v s1 ⟨x, H1, I1, r1, q1⟩ => ?_)
  obtain ⟨a, xs, ex, isT, q⟩ := q1
  subst ex
  cases r1
  have step : PO X (some (.UnaryOp .USub (.Constant (.int 1) k p1) p2)) (tPart (tUn (rU fun i => .int (-i)) (tC (.int 1)))) := po_some (pe_un un_neg pe_int)
  refine wpAny_Slice (thn (po_none.run pins s1 σ H1 (fun o H2 => o = none ∧ H2 = H1) I1 ⟨rfl, rfl⟩) fun vl s2 ⟨l, H2, I2, pl, el, e2⟩ => ?_)
  subst el e2
  refine thn (po_none.run pins s2 σ H2 (fun o H3 => o = none ∧ H3 = H2) I2 ⟨rfl, rfl⟩) fun vu s3 ⟨u, H3, I3, pu, eu, e3⟩ => ?_
  subst eu e3
  refine thn (step.run pins s3 σ H3 (fun o H4 => o = some (-1) ∧ H4 = H3) I3 ⟨1, rfl, -1, rfl, rfl, rfl⟩) fun vs s4 ⟨o, H4, I4, ps, eo, e4⟩ => ?_
  subst eo e4
  have I5 : Inv X pins σ H4 { s4 with heap := s4.heap.push { cls := .type "slice", data := .fields #[vl, vu, vs] } } := I4.kept (t' := s4.toks) fun b ob z => Heap.get?_push_of_some _ z
  obtain ⟨its, r, ht, hz⟩ := I5.tuple isT
  have many := r.length
  show wpAny (model X.prog X.w) X.A (subscriptTail e (.Slice none none (some (.UnaryOp .USub (.Constant (.int 1) k p1) p2)) p3) (.ref a) (.ref s4.heap.objs.size)) (EP X pins σ Q) X.xe { s4 with heap := s4.heap.push { cls := .type "slice", data := .fields #[vl, vu, vs] } }
  refine tail_any (ops := [.ref a, .ref s4.heap.objs.size]) ht.typeIs (PyProof.Rows.slot_tuple_getitem.lookup) ?_ (by with_unfolding_all rfl)
  refine tuple_back ht (Heap.IsSliceOf.new _ vl vu vs) pl pu ps ?_ (by rw [List.size_toArray]; omega)
  refine ⟨.ref _, _, I5.laid (t' := s4.toks) (o := .tup xs.reverse) (fun b ob z => Heap.get?_push_of_some _ z) (Nat.le_refl _) ?_, rfl, q _ (I5.hok.fresh (Nat.le_refl _))⟩
  exact ⟨by rw [List.length_reverse]; exact hz, _, r.reverse, IsTup.new _ _⟩
end L2

set_option Elab.async false
set_option linter.all false
set_option maxRecDepth 100000
/-! len of a set of ints: as many as its members -/
namespace L2
open PySem PySem.Spec PyProof.Rows
def rLenSetO (w : World) : List V → Hp → VK → Prop := fun xs H Q => ∃ (a : Addr) (S : Int → Bool) (n : Nat), xs = [.ref a] ∧ H a = some (SetO w a S n) ∧ n ≤ 1000 ∧ ((∃ l : List Int, l.Nodup ∧ l.length = n ∧ ∀ k, k ∈ l ↔ S k = true) → Q (.int n) H)
theorem cr_lenSetO {X : Cx} : CallR X (.builtin "len") (rLenSetO X.w) := by
  intro pins s σ H xs us Q I r h
  obtain ⟨a, S, n, rfl, ha, h64, q⟩ := h
  have R := setO_get I ha
  rw [Vals.ref1 r]
  obtain ⟨o, es, ep, t, ho, hex, hd, g, nd, hm, hb, hf, hn, hr, hl⟩ := R
  refine call_len_set ho hex hd hf (by rw [hn]; omega) ⟨.int n, H, I.tok _, ⟨_, by rw [hn]⟩, q ⟨es.toList.map keyOf, nd, ?_, fun k => (hm k).symm⟩⟩
  rw [List.length_map, Array.length_toList]
  exact hn
/-- the bookkeeping of a walk over a range, whatever a turn's reading is -/
theorem steps_range {lo : Int} {n : Nat} {H0 : Hp} {Qd : Hp → Prop} {step : V → Hp → (Hp → Prop) → Prop} (Pv : Nat → Hp → Prop) (h0 : Pv 0 H0)
    (hs : ∀ i H, i < n → Pv i H → step (.int (lo + i)) H (Pv (i + 1))) (hd : ∀ H, Pv n H → Qd H) :
    ∃ W : Nat → Nat → Hp → Prop, (∃ m, W 0 m H0) ∧ ∀ i m H, W i m H →
      ((Itr lo n).stop i H ∧ Qd H) ∨ ((Itr lo n).go i H ∧ ∃ N : Hp → Prop, (∀ H', N H' → ∃ m', m' < m ∧ W (i + 1) m' H') ∧ ∀ x H', (Itr lo n).yld i H x H' → step x H' N) := by
  refine ⟨fun i m H => m = n - i ∧ i ≤ n ∧ Pv i H, ⟨n, by simp, Nat.zero_le _, h0⟩, ?_⟩
  rintro i m H ⟨rfl, hi, p⟩
  by_cases hlt : i < n
  · refine .inr ⟨hlt, Pv (i + 1), fun H' p' => ⟨n - (i + 1), by omega, rfl, hlt, p'⟩, fun x H' y => ?_⟩
    obtain ⟨e, y⟩ := y
    subst e y
    exact hs i _ hlt p
  · obtain rfl : i = n := by omega
    exact .inl ⟨Nat.le_refl _, hd H p⟩
end L2

set_option Elab.async false
set_option linter.all false
set_option maxRecDepth 100000
set_option maxHeartbeats 4000000
/-! zip of two things, each a list or a tuple -/
namespace L2
open PySem PySem.Spec PyProof.Rows
def SqB (K : PySem.W.Frag) (t : Bool) (H : Hp) (a : Addr) (xs : List V) : Prop := match t with | true => SqT K H a xs | false => SqL K H a xs
def SeqB (h : Heap) (t : Bool) (a : Addr) (items : Array Value) : Prop := match t with | true => h.IsTuple a items | false => h.IsList a items
def IterB (h : Heap) (t : Bool) (it a : Addr) (i : Nat) : Prop := match t with | true => h.IsTupleIter it a i | false => h.IsListIter it a i
def obB (t : Bool) (a : Addr) : Obj := match t with | true => { cls := .type "tuple_iterator", data := .fields #[.ref a, .int 0 0] } | false => { cls := .type "list_iterator", data := .fields #[.ref a, .int 0 0] }
theorem drawsB {prog : Program} {w : World} {A : Around} (t : Bool) (hh : A.handled = none) (it l : Addr) (hne : l ≠ it) (items : Array Value) :
    Draws prog w A it [it, l] items.size (fun i v => items[i]? = some v) (fun i h => IterB h t it l i ∧ SeqB h t l items) := by
  cases t with
  | true => exact Draws.tuple hh it l hne items
  | false => exact Draws.list hh it l hne items
theorem beginsB (t : Bool) (l : Addr) (items : Array Value) : Begins (.ref l) (obB t l) (fun h => SeqB h t l items) := by
  cases t with
  | true => exact begins_tuple l items
  | false => exact begins_list l items
theorem iterB_new {h : Heap} {t : Bool} {it l : Addr} (e : h.get? it = some (obB t l)) : IterB h t it l 0 := by
  cases t with
  | true => exact ⟨_, e, rfl, rfl⟩
  | false => exact ⟨_, e, rfl, rfl⟩
theorem IterB.live {h : Heap} {t : Bool} {it a : Addr} {i : Nat} (q : IterB h t it a i) : ∃ o, h.get? it = some o ∧ ∀ v, o.data ≠ .cell v := by
  cases t with
  | true =>
    obtain ⟨o, e, _, d⟩ := q
    exact ⟨o, e, fun v q => by rw [d] at q; cases q⟩
  | false =>
    obtain ⟨o, e, _, d⟩ := q
    exact ⟨o, e, fun v q => by rw [d] at q; cases q⟩
theorem IterB.at {h h' : Heap} {t : Bool} {it a : Addr} {i : Nat} (q : IterB h t it a i) (k : ∀ o, h.get? it = some o → h'.get? it = some o) : IterB h' t it a i := by
  cases t with
  | true => exact Heap.IsTupleIter.at q k
  | false => exact Heap.IsListIter.at q k
theorem SeqB.lt {h : Heap} {t : Bool} {a : Addr} {items : Array Value} (q : SeqB h t a items) : a < h.objs.size := by
  cases t with
  | true =>
    obtain ⟨o, e, _⟩ := q
    exact Heap.lt_size e
  | false =>
    obtain ⟨o, e, _⟩ := q
    exact Heap.lt_size e
section
variable {X : Cx} {pins : List (Addr × Obj)} {σ : St} {H : Hp} {s : Shared}
theorem inv_seqB {t : Bool} {a : Addr} {xs : List V} (I : Inv X pins σ H s) (q : SqB X.K t H a xs) : ∃ its : List Value, Vals xs its ∧ SeqB s.heap t a its.toArray := by
  cases t with
  | true =>
    obtain ⟨its, rv, p, _⟩ := I.tuple q
    exact ⟨its, rv, p⟩
  | false =>
    obtain ⟨its, rv, p, _⟩ := I.list q
    exact ⟨its, rv, p.isList⟩
theorem inv_injB {t : Bool} {a : Addr} {xs ys : List V} (I : Inv X pins σ H s) (q : SqB X.K t H a xs) (q' : SqB X.K t H a ys) : xs = ys := by
  cases t with
  | true => exact I.tuple_inj q q'
  | false => exact I.list_inj q q'
end
theorem SqB.ext {K : PySem.W.Frag} {t : Bool} {H H' : Hp} {a : Addr} {xs : List V} (q : SqB K t H a xs) (e : Ext H H') : SqB K t H' a xs := by
  cases t with
  | true => exact SqT.ext q e
  | false => exact SqL.ext q e
/-- the two things as they stand at each turn, the items in new pairs -/
def ItzB (K : PySem.W.Frag) (t1 t2 : Bool) (a b : Addr) : It :=
  ⟨fun i H => ∃ (xs ys : List V), SqB K t1 H a xs ∧ SqB K t2 H b ys ∧ i < xs.length ∧ i < ys.length,
    fun i H v H' => ∃ T x y, v = .ref T ∧ H T = none ∧ H' = upd H T (.tup [x, y]) ∧ (∀ xs, SqB K t1 H a xs → xs[i]? = some x) ∧ ∀ ys, SqB K t2 H b ys → ys[i]? = some y,
    fun i H => ∃ xs ys : List V, SqB K t1 H a xs ∧ SqB K t2 H b ys ∧ i = min xs.length ys.length⟩
theorem turn_zipB {P : Program} {w : World} {K : PySem.W.Frag} {elts : List Expr} {kk : Nat} {tpos : Pos} {t1 t2 : Bool} {a b z TI TO i1 i2 : Addr} (D : ZipApart z TI TO i1 i2 a b) :
    Turn P w K (.Tuple elts kk tpos) (ItzB K t1 t2 a b) [z, TI, TO, i1, i2] z (fun i h => IsZip h z TI TO .none ∧ IsTupOf2 h TI (.ref i1) (.ref i2) ∧ (∃ x y, IsTupOf2 h TO x y) ∧ IterB h t1 i1 a i ∧ IterB h t2 i2 b i) where
  mem := by simp
  obj := fun i h st c hc => by
    obtain ⟨hz, hTI, ⟨x, y, hTO⟩, h1, h2⟩ := st
    have e' : c = z ∨ c = TI ∨ c = TO ∨ c = i1 ∨ c = i2 := by simpa using hc
    rcases e' with q | q | q | q | q
    · rw [q]; exact ⟨_, hz, fun v q => nomatch q⟩
    · rw [q]; exact ⟨_, hTI, fun v q => nomatch q⟩
    · rw [q]; exact ⟨_, hTO, fun v q => nomatch q⟩
    · rw [q]; exact h1.live
    · rw [q]; exact h2.live
  keep := fun i h h' st k => by
    obtain ⟨hz, hTI, ⟨x, y, hTO⟩, h1, h2⟩ := st
    exact ⟨k z (by simp) _ hz, k TI (by simp) _ hTI, ⟨x, y, k TO (by simp) _ hTO⟩, h1.at fun o q => k i1 (by simp) o q, h2.at fun o q => k i2 (by simp) o q⟩
  item := by
    intro X hP hw hK hc i pins s σ H E I hf st hg
    subst hP hw hK
    obtain ⟨hz, hTI, ⟨x0, y0, hTO⟩, h1, h2⟩ := st
    obtain ⟨xs, ys, hqx, hqy, hx, hy⟩ := hg
    obtain ⟨its, rv, p⟩ := inv_seqB I hqx
    obtain ⟨its2, rv2, p2⟩ := inv_seqB I hqy
    have l1 := rv.length
    have l2 := rv2.length
    have hzl : z < s.heap.objs.size := Heap.lt_size hz
    have Sp : ZipSep2 z TI TO i1 i2 [i1, a] [i2, b] := ⟨D.TIz, D.TOz, D.TITO, D.TIi1, by simp, by simp [Ne.symm D.i1z, Ne.symm D.l1z], by simp [D.TOi1, Ne.symm D.l1TO], D.TIi2, by simp, by simp [Ne.symm D.i2z, Ne.symm D.l2z], by simp [D.TOi2, Ne.symm D.l2TO], by simp [D.i12, Ne.symm D.l2i1], by simp [Ne.symm D.i12, Ne.symm D.l1i2]⟩
    have D1 := drawsB (prog := X.prog) (w := X.w) (A := X.A.in1) t1 (show X.A.in1.handled = none from I.ok.hd hc) i1 a D.l1i1 its.toArray
    have D2 := drawsB (prog := X.prog) (w := X.w) (A := X.A.in1) t2 (show X.A.in1.handled = none from I.ok.hd hc) i2 b D.l2i2 its2.toArray
    refine wpAny_pyNext_zipD2_item Sp D1 D2 hz hTI hTO ⟨h1, p⟩ ⟨h2, p2⟩ (by simp; omega) (by simp; omega) fun u u2 h' tk hP1 hP2 z' TO' h1' h2' hT hsz hk => ?_
    have hu : its[i]? = some u := by simpa using hP1
    have hu2 : its2[i]? = some u2 := by simpa using hP2
    obtain ⟨x, hxx⟩ : ∃ x, xs[i]? = some x := ⟨_, List.getElem?_eq_getElem hx⟩
    obtain ⟨y, hyy⟩ : ∃ y, ys[i]? = some y := ⟨_, List.getElem?_eq_getElem hy⟩
    obtain ⟨u', hu', ru⟩ := rv.get hxx
    obtain ⟨u2', hu2', ru2⟩ := rv2.get hyy
    obtain rfl : u' = u := Option.some.inj (hu'.symm.trans hu)
    obtain rfl : u2' = u2 := Option.some.inj (hu2'.symm.trans hu2)
    refine ⟨_, rfl, wpAny_letOwnedTupleGo_zip (s := { s with heap := h', toks := tk }) z' fun h'' z'' sb => ?_⟩
    have hT2 : h''.get? s.heap.objs.size = some { cls := .type "tuple", data := .seq #[u', u2'] } := (sb.2 _ (Nat.ne_of_gt hzl)).trans hT
    have new : ObjOk X.prog X.w (upd H s.heap.objs.size (.tup [x, y])) h'' s.heap.objs.size (.tup [x, y]) :=
      ⟨by show 2 ≤ sizeLine; decide, [u', u2'], .cons ru (.cons ru2 .nil), ⟨_, hT2, rfl, _, rfl⟩⟩
    have I1 : Inv X pins σ (upd H s.heap.objs.size (.tup [x, y])) { s with heap := h'', toks := tk } :=
      I.turnedNew (ch := [z, TI, TO, i1, i2]) (fun c o hb q => (sb.2 c (fun q' => hb (by simp [q']))).trans (hk c o (fun q' => hb (by simp [q'])) (fun q' => hb (by simp [q'])) (fun q' => hb (by simp [q'])) (fun q' => hb (by simp [q'])) q)) hf (Nat.le_refl _) new
    refine ⟨.ref s.heap.objs.size, _, I1, rfl, ⟨_, x, y, rfl, I.hok.fresh (Nat.le_refl _), rfl, fun l hl => by rw [inv_injB I hl hqx]; exact hxx, fun l hl => by rw [inv_injB I hl hqy]; exact hyy⟩, ⟨z'', ?_, ⟨u', u2', ?_⟩, ?_, ?_⟩, fun c hcm => ?_⟩
    · exact (sb.2 _ D.TIz).trans (hk _ _ D.TIz D.TITO D.TIi1 D.TIi2 hTI)
    · exact (sb.2 _ D.TOz).trans TO'
    · exact h1'.1.at fun o q => (sb.2 _ D.i1z).trans q
    · exact h2'.1.at fun o q => (sb.2 _ D.i2z).trans q
    · have hlt : c < s.heap.objs.size := by
        have e' : c = z ∨ c = TI ∨ c = TO ∨ c = i1 ∨ c = i2 := by simpa using hcm
        rcases e' with q | q | q | q | q
        · rw [q]; exact hzl
        · rw [q]; exact Heap.lt_size hTI
        · rw [q]; exact Heap.lt_size hTO
        · rw [q]; obtain ⟨_, e1, _⟩ := h1.live; exact Heap.lt_size e1
        · rw [q]; obtain ⟨_, e2, _⟩ := h2.live; exact Heap.lt_size e2
      rw [upd_ne (Nat.ne_of_lt hlt)]
      exact (hf c hcm).1
  done := by
    intro X hP hw hK hc i pins s σ H E I hf st hg
    subst hP hw hK
    obtain ⟨hz, hTI, ⟨x0, y0, hTO⟩, h1, h2⟩ := st
    obtain ⟨xs, ys, hqx, hqy, hend⟩ := hg
    obtain ⟨its, rv, p⟩ := inv_seqB I hqx
    obtain ⟨its2, rv2, p2⟩ := inv_seqB I hqy
    have l1 := rv.length
    have l2 := rv2.length
    have Sp : ZipSep2 z TI TO i1 i2 [i1, a] [i2, b] := ⟨D.TIz, D.TOz, D.TITO, D.TIi1, by simp, by simp [Ne.symm D.i1z, Ne.symm D.l1z], by simp [D.TOi1, Ne.symm D.l1TO], D.TIi2, by simp, by simp [Ne.symm D.i2z, Ne.symm D.l2z], by simp [D.TOi2, Ne.symm D.l2TO], by simp [D.i12, Ne.symm D.l2i1], by simp [Ne.symm D.i12, Ne.symm D.l1i2]⟩
    have D1 := drawsB (prog := X.prog) (w := X.w) (A := X.A.in1) t1 (show X.A.in1.handled = none from I.ok.hd hc) i1 a D.l1i1 its.toArray
    have D2 := drawsB (prog := X.prog) (w := X.w) (A := X.A.in1) t2 (show X.A.in1.handled = none from I.ok.hd hc) i2 b D.l2i2 its2.toArray
    refine wpAny_pyNext_zipD2_end Sp D1 D2 hz hTI hTO ⟨h1, p⟩ ⟨h2, p2⟩ (by simp; omega) (by simp; omega) (by simp; omega) fun h' tk hk => ⟨rfl, I.turnedL (t' := tk) (ch := [z, TI, TO, i1, i2]) (fun c o hb q =>
      hk c o (fun q' => hb (by simp [q'])) (fun q' => hb (by simp [q'])) (fun q' => hb (by simp [q'])) (fun q' => hb (by simp [q'])) q) hf⟩
  self := fun A i s Q E st h => wpAny_pyIter_zip st.1 h
def iZipB (K : PySem.W.Frag) (t1 t2 : Bool) (ta : TA) : TI := fun σ H R => ta σ H fun vs H1 => ∃ a b xs ys, vs = [.ref a, .ref b] ∧ SqB K t1 H1 a xs ∧ SqB K t2 H1 b ys ∧ R (ItzB K t1 t2 a b) H1
theorem pi_zipB {X : Cx} (t1 t2 : Bool) {e e2 : Expr} {ta : TA} {p pos tpos : Pos} {elts : List Expr} {kk : Nat} (hg : Gl X "zip") (hm : X.mg "zip" = none) (ha : PA X [e, e2] ta)
    (hs : starEach [e, e2] X.env = (false, eval e X.env) :: starEach [e2] X.env := by rfl) (hpl : (backTo pos (starEach [e2] X.env)).any (·.1) = false := by rfl) :
    PI X (.Tuple elts kk tpos) (.Call (.Name "zip" p) [e, e2] [] pos) (iZipB X.K t1 t2 ta) := by
  refine ⟨fun pins s σ H R I h => ?_⟩
  refine Call_ (ld_blt I hg hm PyProof.Rows.boot_zip (PyProof.Rows.callWith_type1 (thn (ha.run pos pins s σ H _ I h) fun us s1 ⟨vs, H1, I1, r1, q1⟩ => ?_) hs hpl))
  obtain ⟨a, b, xs, ys, ex, hqx, hqy, q⟩ := q1
  subst ex
  cases r1 with
  | cons r rr =>
    cases rr with
    | cons r' rr =>
      cases rr
      cases r
      cases r'
      have fresh5 : ∀ c, c ∈ [s1.heap.objs.size + 4, s1.heap.objs.size + 2, s1.heap.objs.size + 3, s1.heap.objs.size, s1.heap.objs.size + 1] → FpOk X pins H1 c := fun c hcm => by
        have e' : c = s1.heap.objs.size + 4 ∨ c = s1.heap.objs.size + 2 ∨ c = s1.heap.objs.size + 3 ∨ c = s1.heap.objs.size ∨ c = s1.heap.objs.size + 1 := by simpa using hcm
        have hle : s1.heap.objs.size ≤ c := by
          rcases e' with z | z | z | z | z
          · rw [z]; exact Nat.le_add_right _ _
          · rw [z]; exact Nat.le_add_right _ _
          · rw [z]; exact Nat.le_add_right _ _
          · rw [z]; exact Nat.le_refl _
          · rw [z]; exact Nat.le_add_right _ _
        exact I1.fpOk hle (I1.hok.fresh hle)
      obtain ⟨its, rv, p1⟩ := inv_seqB I1 hqx
      obtain ⟨its2, rv2, p2⟩ := inv_seqB I1 hqy
      refine zip_begins2 (beginsB t1 a its.toArray) (beginsB t2 b its2.toArray) p1 p2 fun h' hz hTI hTO h1 h2 hsz hk => wpAny_pyIter_zip hz ?_
      have I2 : Inv X pins σ H1 { s1 with heap := h' } := I1.kept (t' := s1.toks) hk
      exact ⟨s1.heap.objs.size + 4, [s1.heap.objs.size + 4, s1.heap.objs.size + 2, s1.heap.objs.size + 3, s1.heap.objs.size, s1.heap.objs.size + 1], _, _, H1, rfl, I2, turn_zipB (PySem.W.ktu_apart s1.heap.objs.size a b p1.lt p2.lt), ⟨hz, hTI, ⟨_, _, hTO⟩, iterB_new h1, iterB_new h2⟩, fresh5, q⟩
theorem walk_zipB {K : PySem.W.Frag} {t1 t2 : Bool} {a b : Addr} {xs ys : List V} {n : Nat} (hn : n = min xs.length ys.length) : Walk (ItzB K t1 t2 a b) n (fun H => SqB K t1 H a xs ∧ SqB K t2 H b ys) (YPair (fun i => xs[i]?) (fun i => ys[i]?)) := by
  subst hn
  refine ⟨fun i _ hi q => ⟨xs, ys, q.1, q.2, by omega, by omega⟩, fun _ q => ⟨xs, ys, q.1, q.2, rfl⟩, fun i H v H' _ q y => ?_⟩
  obtain ⟨T, x, y, e1, e2, e3, e4, e5⟩ := y
  exact ⟨T, x, y, e1, e2, e3, e4 xs q.1, e5 ys q.2⟩
end L2

set_option Elab.async false
set_option linter.all false
set_option maxRecDepth 100000
set_option maxHeartbeats 1000000
/-! list.remove of a flat item -/
namespace L2
open PySem PySem.Spec PyProof.Rows
section
variable {X : Cx}
def rRemF : V → List V → Hp → VK → Prop := fun x xs H Q => ∃ (l : Addr) (ys : List V) (y : V) (j : Nat) (z : V), x = .ref l ∧ xs = [y] ∧ H l = some (.lst ys) ∧ flatV y = true ∧ ys.all flatV = true ∧ ys[j]? = some z ∧ eqV z y = true ∧
  (∀ (m : Nat) (z' : V), m < j → ys[m]? = some z' → eqV z' y = false) ∧ Q .non (upd H l (.lst (ys.eraseIdx j)))
theorem mt_removeF : MtM X "list.remove" rRemF := by
  intro pins s σ H x xs v us Q I rx rxs h
  obtain ⟨l, ys, y, j, z, rfl, rfl, hH, fy, fys, hz, hzj, hno, q⟩ := h
  cases rx
  obtain ⟨u, rfl, ry⟩ := rxs.one
  obtain ⟨zz, its, n, rv, hl, e⟩ := I.lstM hH
  obtain ⟨w, hw, ru⟩ := rv.get hz
  obtain ⟨hjl, hje⟩ := List.getElem?_eq_some_iff.mp hw
  have hvl := rv.length
  have hj : j < its.toArray.size := by simpa using hjl
  refine call_meets PySem.F.slot_list_remove ⟨_, e, rfl⟩ PySem.F.entry_list_remove (PySem.F.args_list_remove_2 _ _)
    (SeqAt.list_removeAt l its.toArray n none #[] u (eqU y) j hj ?_ ?_ (by rw [List.size_toArray]; omega)) ⟨e, fun u' hu' => mem_eqAt ry fy rv fys u' (by simpa using hu'), ?_⟩
  · have e1 : its.toArray[j] = w := by simpa using hje
    rw [e1, eqU_of ru (flat_at fys hz)]
    exact hzj
  · intro m hm hmj
    have hml : m < its.length := by simpa using hm
    have hmy : m < ys.length := by omega
    have hy' : ys[m]? = some ys[m] := List.getElem?_eq_getElem hmy
    obtain ⟨u2, hu2, ru2⟩ := rv.get hy'
    obtain ⟨_, hme⟩ := List.getElem?_eq_some_iff.mp hu2
    have e1 : its.toArray[m] = u2 := by simpa using hme
    rw [e1, eqU_of ru2 (flat_at fys hy')]
    exact hno m _ hmj hy'
  · refine ⟨.non, _, I.lset (its' := its.eraseIdx j) (t' := s.toks) hH e ?_ (rv.eraseIdx j) ?_, rfl, q⟩
    · show its.toArray.eraseIdxIfInBounds j = (its.eraseIdx j).toArray
      rw [List.eraseIdxIfInBounds_toArray]
    · have := len_erase ys j
      omega
end
end L2

set_option Elab.async false
set_option linter.all false
set_option maxRecDepth 100000
set_option maxHeartbeats 4000000
/-! <= by an own __le__, + by an own __add__ (what stands to the right: an int, a bool, a text), the call of an instance by an own __call__; what is raised may be wished for -/
namespace PySem.W
open PySem PyProof.Rows
section
variable {prog : Program} {w : World} {A : Around} {E : Value → Shared → Prop} {s : Shared} {K : Frag} {x C L f : Addr} {h₀ : Heap} {m : Str → Option Value} {ox : Obj} {od : Option Obj}
theorem pyslot_K {M : Model} {h : Heap} {nm : String} (X : K.In h) (hs : findIn K (.ref C) (PySem.dunder nm) = some (some (.ref f))) (hr : findIn K (.ref C) (dunderR nm) = some none) : Looks M h (numberSlotInPython (.ref C) nm) true := by
  intro A Q E s k q
  unfold numberSlotInPython
  refine wpAny_bind ((looks_findIn X hs) A _ E s k ?_)
  refine wpAny_bind (wpAny_pure ?_)
  refine wpAny_bind ((looks_findIn X hr) A _ E s k ?_)
  refine wpAny_bind (wpAny_pure ?_)
  simp only [Bool.or_false, if_true]
  exact wpAny_pure q
theorem binop_KB {op : Operator} {b : Value} {T : String} {fT : Bool} {rT : Option Value} {Q : Value → Shared → Prop} (F : Fr h₀ L s.heap m) (X₀ : K.In h₀) (I : InstAt s.heap x ox C od) (hb : Looks (model prog w) s.heap (typeOf b) (.type T)) (hc : selfFirst K C = true)
    (hs : findIn K (.ref C) (PySem.dunder op.info.2) = some (some (.ref f))) (hr : findIn K (.ref C) (dunderR op.info.2) = some none) (hfT : fillsNumberSlot (.type T) op.info.2 = pure fT) (hsub : subIn K (.type T) (.ref C) = some false) (hrT : typeLookup (.type T) (dunderR op.info.2) = pure rT) (hf : isFn K (.ref f) = true)
    (h : wpAny (model prog w) A (call (.ref f) [.ref x, b]) (CmpBack Q) E s) : wpAny (model prog w) A (binaryOp op (.ref x) b) Q E s := by
  have X := X₀.keeps F.keep
  obtain ⟨cd, hcd, hm⟩ := any_some hc
  obtain ⟨rest, hm⟩ : ∃ rest, cd.mro = .ref C :: rest := by
    cases q : cd.mro with
    | nil => rw [q] at hm; cases hm
    | cons a r => rw [q] at hm; exact ⟨r, by rw [List.head?_cons] at hm; cases (beq_iff_eq.mp hm); rfl⟩
  unfold binaryOp
  refine wpAny_holding (wpAny_bind ?_)
  unfold binaryOp1
  refine wpAny_bind (I.type.here (wpAny_bind (hb.here (wpAny_bind ((fills_K X hcd hm hs).here ?_)))))
  have tail : wpAny (model prog w) A (tryMethod (.ref x) (PySem.dunder op.info.2) b) (fun r s' => ∃ v, r = some v ∧ Q v s') E s := by
    unfold tryMethod
    refine wpAny_bind (special_fn X I hs (beq_iff_eq.mp hf) (wpAny_mono h (fun v s' hv => ?_) fun _ _ e => e))
    cases v <;> first | exact hv.elim | exact wpAny_pure ⟨_, rfl, hv⟩
  simp only [show (Value.ref C == Value.type T) = false from rfl, Bool.false_eq_true, if_false]
  refine wpAny_bind (wpAny_of_eq hfT ?_)
  cases fT with
  | false =>
    simp only [Bool.and_false, Bool.false_eq_true, if_false, Bool.false_and]
    refine wpAny_bind (wpAny_pure ?_)
    simp only [Bool.false_eq_true, if_false, if_true]
    refine wpAny_bind (wpAny_mono tail (fun r s' z => ?_) fun _ _ e => e)
    obtain ⟨v, rfl, q⟩ := z
    exact wpAny_pure (wpAny_pure q)
  | true =>
    simp only [Bool.and_self, if_true]
    refine wpAny_bind ((looks_subIn X hsub).here ?_)
    simp only [Bool.false_eq_true, if_false, Bool.not_false, Bool.and_self, if_true]
    refine wpAny_bind ((pyslot_K X hs hr).here ?_)
    simp only [if_true]
    refine wpAny_bind (wpAny_of_eq (show numberSlotInPython (.type T) op.info.2 = pure false from rfl) ?_)
    simp only [Bool.not_false, if_true]
    refine wpAny_bind (wpAny_of_eq hrT ?_)
    refine wpAny_bind (wpAny_mono tail (fun r s' z => ?_) fun _ _ e => e)
    obtain ⟨v, rfl, q⟩ := z
    exact wpAny_pure (wpAny_pure q)
end
end PySem.W
namespace L2
open PySem PySem.Spec PyProof.Rows
section
variable {X : Cx} {CX : CXT} {k : Nat} {f C : Addr} {fd : FuncData} {ps : List Str} {sp : Sp} {E : St → XK}
/-- x <= y, x an instance of the class at C with an own __le__ that gives a bool -/
def rLeO (K : PySem.W.Frag) (C : Addr) (sp : Sp) : R2 := fun x y H Q => ∃ a dx fs t, x = .ref a ∧ H a = some (.ins C dx fs) ∧ TyX K H y t ∧ PySem.W.notFirst K C t = true ∧ sp [x, y] H (fun v H' => ∃ b, v = .bl b ∧ Q (.bl b) H') E0
theorem leO (O : OwnM X.prog X.w X.K X.mg X.base CX C "__le__" k ps sp) (hr : Room k X.A) (hx : Passes CX X E0) : OpR X (compareOp .LtE) (rLeO X.K C sp) := by
  obtain ⟨f, fd, F, M, hi, hb⟩ := O.ex
  intro pins s σ H x y v u Q I rx ry hq
  obtain ⟨a, dx, fs, t, rfl, ha, ty, hn, q⟩ := hq
  cases (show v = Value.ref a from rx)
  obtain ⟨P, Z, p, _⟩ := kit_of I ry ty
  obtain ⟨mA, J, _⟩ := ins_get I.hok ha
  obtain ⟨od, J, _⟩ := J.look
  obtain ⟨m, hF⟩ := I.fr
  show wpAny (model X.prog X.w) X.A (richCompare .LtE (.ref a) u) (EP X pins σ Q) X.xe s
  refine PySem.W.cmp_K (op := .LtE) (tb := t) hr.units0 hF I.ok.mod.kin J (Z.ty _ _ I.kIn p) hn M.at_ hi ?_
  refine wpAny_mono (run_at (vs := [.ref a, y]) F hr rfl hb hx I (.cons rfl (.cons ry .nil)) q) (fun v' s' z => ?_) fun _ _ e => e
  obtain ⟨w', H', I', rv, b, rfl, q'⟩ := z
  cases rv
  exact ⟨.bl b, H', I', rfl, q'⟩
/-- the built-in types that may stand to the right of an own + -/
def addTy (t : Value) : Prop := t = .type "int" ∨ t = .type "bool" ∨ t = .type "str"
structure AddM (K : PySem.W.Frag) (C : Addr) : Prop where
  self : PySem.W.selfFirst K C = true
  radd : PySem.W.findIn K (.ref C) "__radd__" = some none
  int : PySem.W.subIn K (.type "int") (.ref C) = some false
  bool : PySem.W.subIn K (.type "bool") (.ref C) = some false
  str : PySem.W.subIn K (.type "str") (.ref C) = some false
/-- x + y, x an instance of the class at C with an own __add__; what is raised is wished for -/
def tAddO (K : PySem.W.Frag) (C : Addr) (sp : Sp) (E : St → XK) (ta tb : TE) : TE := fun σ H Q => ta σ H fun x H1 => tb σ H1 fun y H2 => ∃ a dx fs t, x = .ref a ∧ H2 a = some (.ins C dx fs) ∧ TyX K H2 y t ∧ addTy t ∧ sp [x, y] H2 Q (E σ)
theorem pe_addO {W : WX} {a b : Expr} {ta tb : TE} {pos : Pos} (O : OwnM X.prog X.w X.K X.mg X.base (L2.CX X.prog X.w) C "__add__" k ps sp) (M' : AddM X.K C) (hr : Room k X.A) (tk : Takes X W) (ha : PE X a ta) (hb' : PE X b tb) : PE X (.BinOp a .Add b pos) (tAddO X.K C sp (WE W) ta tb) := by
  obtain ⟨f, fd, F, M, hi, hb⟩ := O.ex
  refine ⟨fun pins s σ H Q I h => ?_⟩
  refine wpAny_BinOp (binT ha hb' I h fun v u s2 x y H2 I2 rx ry q => ?_)
  obtain ⟨o, dx, fs, t, rfl, ho, ty, hty, q⟩ := q
  cases (show v = Value.ref o from rx)
  obtain ⟨P, Z, p, _⟩ := kit_of I2 ry ty
  obtain ⟨mA, J, _⟩ := ins_get I2.hok ho
  obtain ⟨od, J, _⟩ := J.look
  obtain ⟨m, hF⟩ := I2.fr
  have hcall := run_fnSD (us := [.ref o, u]) (vs := [.ref o, y]) F hr hb .nil (passAt tk σ) I2 (.cons rfl (.cons ry .nil)) (by exact q)
  have hcb : wpAny (model X.prog X.w) X.A (call (.ref f) [.ref o, u]) (PySem.W.CmpBack (EP X pins σ Q)) X.xe s2 := wpAny_mono hcall (fun w s' z => by
    obtain ⟨z', H', I', rz, qz⟩ := z
    exact SlX.cmpback rz ⟨z', H', I', rz, qz⟩) fun _ _ x => x
  rcases hty with rfl | rfl | rfl
  · exact PySem.W.binop_KB (op := .Add) (T := "int") (fT := true) (rT := some (.builtin "int.__radd__")) hF I2.ok.mod.kin J (Z.ty _ _ I2.kIn p) M'.self M.at_ M'.radd PySem.F.fills_int_add M'.int (by rw [typeLookup_type, builtinLookup_eq_fast]; kernel_rfl) hi hcb
  · exact PySem.W.binop_KB (op := .Add) (T := "bool") (fT := true) (rT := some (.builtin "int.__radd__")) hF I2.ok.mod.kin J (Z.ty _ _ I2.kIn p) M'.self M.at_ M'.radd PySem.F.fills_bool_add M'.bool (by rw [typeLookup_type, builtinLookup_eq_fast]; kernel_rfl) hi hcb
  · exact PySem.W.binop_KB (op := .Add) (T := "str") (fT := false) (rT := none) hF I2.ok.mod.kin J (Z.ty _ _ I2.kIn p) M'.self M.at_ M'.radd PySem.noFill_str_add M'.str (by rw [typeLookup_type, builtinLookup_eq_fast]; kernel_rfl) hi hcb
/-- f(e, ..), f an instance of the class at C with an own __call__; what is raised is wished for -/
def tCallOS (C : Addr) (sp : Sp) (E : St → XK) (tf : TE) (t : TA) : TE := fun σ H Q => tf σ H fun y H1 => ∃ a, y = V.ref a ∧ t σ H1 fun vs H2 => (∃ dx fs, H2 a = some (.ins C dx fs)) ∧ sp (V.ref a :: vs) H2 Q (E σ)
theorem pe_callOS {W : WX} {fe e : Expr} {es : List Expr} {tf : TE} {t : TA} {pos : Pos} (O : OwnM X.prog X.w X.K X.mg X.base (L2.CX X.prog X.w) C "__call__" k ps sp) (hn : ∀ g, PySem.W.findIn X.K (.ref C) "__call__" = some (some (.ref g)) → PySem.W.fnIn X.K g = true) (hf : PE X fe tf) (hr : Room k X.A) (tk : Takes X W) (ha : PA X (e :: es) t)
    (ht : eval (.Call fe (e :: es) [] pos) X.env = (do callWith pos (← eval fe X.env) [] (backTo pos (starEach (e :: es) X.env)) (backToKw pos (keywordEach [] X.env))) := by rfl)
    (he : starEach (e :: es) X.env = (false, eval e X.env) :: starEach es X.env := by rfl) (hpl : (backTo pos (starEach es X.env)).any (·.1) = false := by rfl) : PE X (.Call fe (e :: es) [] pos) (tCallOS C sp (WE W) tf t) := by
  obtain ⟨f, fd, F, M, hi, hb⟩ := O.ex
  refine ⟨fun pins s σ H Q I h => ?_⟩
  refine Call_ (thn (hf.run pins s σ H _ I h) fun u s1 ⟨y, H1, I1, ry, a, ey, q⟩ => ?_) ht
  subst ey
  obtain rfl : u = Value.ref a := ry
  refine StX.callO_with (thn (ha.run pos pins s1 σ H1 _ I1 q) fun us s2 ⟨vs, H2, I2, r, ⟨dx, fs, hz⟩, q2⟩ => ?_) he hpl
  obtain ⟨ox, od, J, hd⟩ := StX.insC_at I2 (.inr ⟨dx, fs, hz⟩ : StX.InsC X H2 a C)
  refine ⟨⟨C, ox, od, J, hd⟩, wpAny_call (PySem.W.kco_code I2.kIn J hd M.at_ hi (hn f M.at_) ?_)⟩
  have r2 : Vals (V.ref a :: vs) (Value.ref a :: us) := .cons rfl r
  have hl : (Value.ref a :: us).length = ps.length := by rw [← r2.length]; exact F.len _ _ _ _ q2
  refine codeAny_mono (F.run X.A X.stack s2 H2 ⟨Value.ref a :: us, []⟩ (Value.ref a :: us) (V.ref a :: vs) Q (WE W σ) hr I2.env0 (by have := hb s2 (Value.ref a :: us) I2.kIn (by simpa using hl); simpa using this) r2 q2) fun r s' hq => ?_
  cases r with
  | error e => exact passAt tk σ pins H2 s2 e s' I2 hq
  | ok fl =>
    cases fl with
    | ret u => exact I2.after hq
    | next => exact False.elim hq
    | brk => exact False.elim hq
    | cont => exact False.elim hq
end
end L2

set_option Elab.async false
set_option linter.all false
set_option maxRecDepth 100000
set_option maxHeartbeats 4000000
/-! a generator whose consumer may change things between its items: each stretch (from a wake to the next item) has a context of its own -/
namespace L2
open PySem PySem.Spec PyProof.Rows GenW
/-- the heap's first n places -/
def headH (h : Heap) (n : Nat) : Heap := ⟨h.objs.extract 0 n, h.life⟩
def headS (s : Shared) (n : Nat) : Shared := { s with heap := headH s.heap n }
theorem headH_size {h : Heap} {n : Nat} (hn : n ≤ h.objs.size) : (headH h n).objs.size = n := by
  show (h.objs.extract 0 n).size = n
  rw [Array.size_extract]; omega
theorem headH_get {h : Heap} {n b : Nat} (hb : b < n) : (headH h n).get? b = h.get? b := by
  have e : (headH h n).objs[b]? = h.objs[b]? := by
    show (h.objs.extract 0 n)[b]? = _
    rw [Array.getElem?_extract]
    by_cases hl : b < h.objs.size
    · rw [if_pos (by omega), Nat.zero_add]
    · rw [if_neg (by omega), Array.getElem?_eq_none (by omega)]
  unfold Heap.get?
  rw [e]
theorem headH_of {h : Heap} {n b : Nat} {o : Obj} (e : (headH h n).get? b = some o) : b < n ∧ h.get? b = some o := by
  have hb : b < n := by
    have q := Heap.lt_size e
    have z : (headH h n).objs.size ≤ n := by show (h.objs.extract 0 n).size ≤ n; rw [Array.size_extract]; omega
    exact Nat.lt_of_lt_of_le q z
  exact ⟨hb, by rw [← headH_get hb]; exact e⟩

/-- what a generator and its consumer have agreed on: cs: the consumer's state while the generator runs (what is out; heap); yd: what it wants of an item; kp: what it does to the heap until it asks again -/
structure Deal where
  cs : List V → Hp → Shared → Prop
  yd : List V → V → Hp → Prop
  kp : List V → V → Hp → Hp → Prop
  ad : List Addr := []
/-- the consumer's own places, made after the generator's: they stay while it runs -/
def AdOk (ad : List Addr) (n₀ : Nat) (outer : List Env) (H : Hp) (h : Heap) : Prop := ∀ b ∈ ad, n₀ < b ∧ H b = none ∧ b ∉ frs outer ∧ ∃ o, h.get? b = some o ∧ ∀ v, o.data ≠ .cell v
/-- the state in which it asks again -/
structure Wk (P : Program) (w : World) (base : Heap) (outer : List Env) (n₀ : Nat) (ad : List Addr) (H : Hp) (s : Shared) : Prop where
  bare : AllBare s.gens
  bs : ∀ b o, base.get? b = some o → s.heap.get? b = some o ∧ H b = none
  funs : s.heap.FunFrames base outer
  low : ∀ b ∈ frs outer, b < n₀ ∧ H b = none
  hok : HOk P w H s.heap
  sz : n₀ ≤ s.heap.objs.size
  ad : AdOk ad n₀ outer H s.heap
/-- a stretch's contexts -/
structure Fam (Fm : Cx → Prop) (n₀ : Nat) (X : Cx) : Prop where
  same : ∀ Z, Fm Z → Z = { X with s_0 := Z.s_0, H_0 := Z.H_0, xe := Z.xe }
  give : ∀ s H, s.heap.objs.size = n₀ → ∃ Z, Fm Z ∧ Z.s_0 = s ∧ Z.H_0 = H
  ex : X.ex = []
  bsz : X.base.objs.size ≤ n₀
  fn : ∀ Z, Fm Z → ∀ x, Z.fn x = true
  loc : X.env.locals = n₀
def Mine (X : Cx) (ip : List (Addr × Obj)) (b : Addr) : Prop := b = X.env.locals ∨ (∃ x, X.env.cells.lookup x = some b) ∨ ∃ p ∈ X.pn ++ ip, p.1 = b
section
variable {Fm : Cx → Prop} {n₀ : Nat} {X Z : Cx} {ip : List (Addr × Obj)} {σ : St} {H H2 : Hp} {s s2 : Shared}
theorem funFrames_cut {base h : Heap} {n : Nat} : ∀ {l : List Env}, h.FunFrames base l → (∀ b ∈ frs l, b < n) → (headH h n).FunFrames base l
  | [], _, _ => trivial
  | env :: l, hh, hl => by
    obtain ⟨hk, ⟨L, o, hf, hn, ho, hd⟩, hr⟩ := hh
    have hL : L < n := hl L (List.mem_filterMap.mpr ⟨env, List.mem_cons_self, hf⟩)
    refine ⟨hk, ⟨L, o, hf, hn, (headH_get hL).trans ho, hd⟩, funFrames_cut hr fun b hb => ?_⟩
    obtain ⟨e, he, q⟩ := List.mem_filterMap.mp hb
    exact hl b (List.mem_filterMap.mpr ⟨e, List.mem_cons_of_mem _ he, q⟩)
/-- the generator's state in the next stretch -/
theorem reseat {ad : List Addr} {h0 : Heap} (F : Fam Fm n₀ X) (hZ : Fm Z) (hz : Z.s_0.heap.objs.size = n₀) (I : Inv Z (pinsAt ad h0 ++ ip) σ H s) (w : Wk X.prog X.w X.base X.outer n₀ ad H2 s2)
    (mine : ∀ b, Mine Z ip b → ∀ o, s.heap.get? b = some o → s2.heap.get? b = some o ∧ H2 b = none) :
    ∃ Z', Fm Z' ∧ Z'.s_0 = headS s2 n₀ ∧ Z'.H_0 = H2 ∧ Inv Z' (pinsAt ad s2.heap ++ ip) σ H2 s2 := by
  obtain ⟨Z', hZ', e1, e2⟩ := F.give (headS s2 n₀) H2 (headH_size w.sz)
  refine ⟨Z', hZ', e1, e2, ?_⟩
  have q1 := F.same Z hZ
  have q2 := F.same Z' hZ'
  have hex : Z.ex = [] := by rw [q1]; exact F.ex
  have hex' : Z'.ex = [] := by rw [q2]; exact F.ex
  obtain ⟨ok, os, bare, base, ⟨m, hm, loc⟩, cell, free, freeC, pin, hok, len⟩ := I
  have a1 : Z.env = X.env := by rw [q1]
  have a2 : Z'.env = X.env := by rw [q2]
  have a3 : Z.N = X.N := by rw [q1]
  have a4 : Z'.N = X.N := by rw [q2]
  have a5 : Z.pn = X.pn := by rw [q1]
  have a6 : Z'.pn = X.pn := by rw [q2]
  have a7 : Z.outer = X.outer := by rw [q1]
  have a8 : Z'.outer = X.outer := by rw [q2]
  have a9 : Z'.base = X.base := by rw [q2]
  have b1 : Z'.prog = X.prog := by rw [q2]
  have b2 : Z'.w = X.w := by rw [q2]
  have hL : ∀ o, s.heap.get? X.env.locals = some o → s2.heap.get? X.env.locals = some o ∧ H2 X.env.locals = none := fun o e => mine _ (.inl (by rw [a1])) o e
  have hC : ∀ x c, X.env.cells.lookup x = some c → ∀ o, s.heap.get? c = some o → s2.heap.get? c = some o ∧ H2 c = none := fun x c h o e => mine _ (.inr (.inl ⟨x, by rw [a1]; exact h⟩)) o e
  rw [a1] at hm loc cell free freeC pin
  rw [a3] at loc len
  have ok' : Z'.Ok := by
    obtain ⟨mod, kind, glob, blt, above, inj, has, cab, hd, frames, stk, exf, bs, bsz, noex, exfs, funs, frf⟩ := ok
    rw [q1] at mod kind glob blt above inj has cab hd frames stk
    rw [q2]
    refine ⟨mod, kind, glob, blt, ?_, inj, has, fun x c h1 h2 => ?_, hd, frames, stk, ?_, ?_, ?_, ?_, ?_, ?_, ?_⟩
    · show Z'.s_0.heap.objs.size ≤ _
      rw [e1]; show (headH s2.heap n₀).objs.size ≤ _
      rw [headH_size w.sz, ← hz]; exact above
    · show Z'.s_0.heap.objs.size ≤ _
      rw [e1]; show (headH s2.heap n₀).objs.size ≤ _
      rw [headH_size w.sz, ← hz]; exact cab x c h1 h2
    · intro b hb; have hb : b ∈ X.ex := hb; rw [F.ex] at hb; cases hb
    · intro b o e
      show Z'.s_0.heap.get? b = some o ∧ Z'.H_0 b = none
      rw [e1, e2]
      have hl : b < n₀ := Nat.lt_of_lt_of_le (Heap.lt_size e) F.bsz
      obtain ⟨r1, r2⟩ := w.bs b o e
      exact ⟨(headH_get hl).trans r1, r2⟩
    · show X.base.objs.size ≤ Z'.s_0.heap.objs.size
      rw [e1]; show _ ≤ (headH s2.heap n₀).objs.size
      rw [headH_size w.sz]; exact F.bsz
    · intro b o _ hb; have hb : b ∈ X.ex := hb; rw [F.ex] at hb; cases hb
    · intro b hb; have hb : b ∈ X.ex := hb; rw [F.ex] at hb; cases hb
    · show Z'.s_0.heap.FunFrames X.base X.outer
      rw [e1]
      exact funFrames_cut w.funs fun b hb => (w.low b hb).1
    · intro b hb
      show Z'.H_0 b = none
      rw [e2]; exact (w.low b hb).2
  refine ⟨ok', by rw [e1]; rfl, w.bare, ?_, ⟨m, ?_, ?_⟩, ?_, ?_, ?_, ?_, by rw [b1, b2]; exact w.hok, by rw [a4]; exact len⟩
  · rw [e1, e2]
    exact Un.kept fun b o e => (headH_of e).2
  · rw [a2]
    obtain ⟨o, es, ep, ho, r⟩ := hm
    exact ⟨o, es, ep, (hL o ho).1, r⟩
  · rw [a2, a4]
    intro i x v h1 h2 h3
    obtain ⟨u, r, l⟩ := loc i x v h1 h2 h3
    refine ⟨u, r, ?_⟩
    rcases l with l | ⟨k, c, e, o, ho, hd⟩
    · exact .inl l
    · exact .inr ⟨k, c, e, o, (hC x c e o ho).1, hd⟩
  · rw [a2]
    intro x c e
    obtain ⟨v, o, ho, hd⟩ := cell x c e
    exact ⟨v, o, (hC x c e o ho).1, hd⟩
  · rw [a2]
    obtain ⟨o, es, ep, ho, r⟩ := hm
    exact (hL o ho).2
  · rw [a2]
    intro x c e
    obtain ⟨v, o, ho, hd⟩ := cell x c e
    exact (hC x c e o ho).2
  · rw [a2, a6]
    intro p hp
    rcases List.mem_append.mp hp with hp | hp
    · have hp' : p ∈ Z.pn ++ (pinsAt ad h0 ++ ip) := by rw [a5]; exact List.mem_append_left _ hp
      obtain ⟨r1, r2, r3, r4, r5⟩ := pin p hp'
      obtain ⟨t1, t2⟩ := mine p.1 (.inr (.inr ⟨p, by rw [a5]; exact List.mem_append_left _ hp, rfl⟩)) p.2 r1
      refine ⟨t1, t2, r3, ?_, r5⟩
      show p.1 ∉ frs Z'.outer
      rw [a8, ← a7]; exact r4
    rcases List.mem_append.mp hp with hp | hp
    · obtain ⟨hb, e⟩ := of_pinsAt hp
      obtain ⟨w1, w2, w3, o, w4, w5⟩ := w.ad p.1 hb
      rw [e] at w4
      cases w4
      refine ⟨e, w2, ?_, ?_, w5⟩
      · rw [F.loc]; exact Nat.ne_of_gt w1
      · show p.1 ∉ frs Z'.outer
        rw [a8]; exact w3
    · have hp' : p ∈ Z.pn ++ (pinsAt ad h0 ++ ip) := List.mem_append_right _ (List.mem_append_right _ hp)
      obtain ⟨r1, r2, r3, r4, r5⟩ := pin p hp'
      obtain ⟨t1, t2⟩ := mine p.1 (.inr (.inr ⟨p, List.mem_append_right _ hp, rfl⟩)) p.2 r1
      refine ⟨t1, t2, r3, ?_, r5⟩
      show p.1 ∉ frs Z'.outer
      rw [a8, ← a7]; exact r4
end
end L2

set_option Elab.async false
set_option linter.all false
set_option maxRecDepth 100000
set_option maxHeartbeats 4000000
/-! the statements of such a generator -/
namespace L2
open PySem PySem.Spec PyProof.Rows GenW
/-- where a stretch sits -/
structure Seat (Fm : Cx → Prop) (n₀ : Nat) (Dl : Deal) (ys : List V) (s₀ : Shared) (Z : Cx) : Prop where
  fm : Fm Z
  at0 : Z.s_0 = headS s₀ n₀
  cs : Dl.cs ys Z.H_0 s₀
  sz : n₀ ≤ s₀.heap.objs.size
  ad : ∀ b ∈ Dl.ad, ∃ o, s₀.heap.get? b = some o
/-- the consumer's own things at the last wake -/
abbrev Deal.cp (Dl : Deal) (s₀ : Shared) : List (Addr × Obj) := pinsAt Dl.ad s₀.heap
theorem Seat.size {Fm : Cx → Prop} {n₀ : Nat} {Dl : Deal} {ys : List V} {s₀ : Shared} {Z : Cx} (t : Seat Fm n₀ Dl ys s₀ Z) : Z.s_0.heap.objs.size = n₀ := by
  rw [t.at0]; exact headH_size t.sz
/-- an item is handed out; then asked again -/
def GY3 (P : Program) (w : World) (base : Heap) (outer : List Env) (pn : List (Addr × Obj)) (n₀ : Nat) (Dl : Deal) : Protocol := fun n s₀ v s kap =>
  ∃ (ys : List V) (x : V) (HE H1 : Hp) (mine : Addr → Prop), n + 1 + ys.length = sizeLine ∧ RelV x v ∧ Dl.cs ys HE s₀ ∧ n₀ ≤ s₀.heap.objs.size ∧ Un (frs outer) [] HE H1 (headH s₀.heap n₀) s.heap ∧ s.os = s₀.os ∧ AllBare s.gens ∧ HOk P w H1 s.heap ∧
    (∀ p ∈ pn, s.heap.get? p.1 = some p.2 ∧ H1 p.1 = none) ∧ n₀ ≤ s.heap.objs.size ∧ (∀ p ∈ Dl.cp s₀, s.heap.get? p.1 = some p.2 ∧ H1 p.1 = none) ∧ Dl.yd ys x H1 ∧ (∀ b, mine b → H1 b = none ∧ b ∉ frs outer ∧ ∃ o, s.heap.get? b = some o) ∧ (∀ b, mine b → b ∉ Dl.ad) ∧
    ∀ H2 s2, Wk P w base outer n₀ Dl.ad H2 s2 → Dl.cs (ys ++ [x]) H2 s2 → (∀ b, mine b → ∀ o, s.heap.get? b = some o → s2.heap.get? b = some o ∧ H2 b = none) → Dl.kp ys x H1 H2 → kap (.send .none) s2
/-- where its code stands -/
structure GC3 (X : Cx) (A : Around) (c : Code) (fs : List Frame) (gd : Bool → Bool) : Prop where
  over : A.over c fs = X.A
  split : splitAtGen fs = none
  guard : fs.any Frame.guarded = false
  gd : gd false = false
section
variable (Fm : Cx → Prop) (n₀ : Nat) (X : Cx) (Dl : Deal)
abbrev Cx.Y3 : Protocol := GY3 X.prog X.w X.base X.outer X.pn n₀ Dl
/-- what follows -/
structure GK3 (ip : List (Addr × Obj)) (A : Around) (R : GenEnd) (c : Code) (fs : List Frame) (K : Flow → Sem PySem.Fin) (J : Value → Sem PySem.Fin) (D : GEnds) : Prop where
  ok : ∀ (n : Nat) (ys : List V) (s₀ s : Shared) (f : Flow) (Z : Cx), Seat Fm n₀ Dl ys s₀ Z → n + ys.length = sizeLine → SP Z (Dl.cp s₀ ++ ip) (D.at ys) f s → Seg (model X.prog X.w) A R (X.Y3 n₀ Dl) n s₀ c (K f) fs s
  exc : ∀ (n : Nat) (ys : List V) (s₀ : Shared) (e : Value) (s : Shared) (Z : Cx), Seat Fm n₀ Dl ys s₀ Z → Z.xe e s → Seg (model X.prog X.w) A R (X.Y3 n₀ Dl) n s₀ c (J e) fs s
/-- whatever follows, from this tree -/
def GRun (m : Sem Flow) (t : TGn) : Prop :=
  ∀ (A : Around) (ip : List (Addr × Obj)) (R : GenEnd) (n : Nat) (ys : List V) (s₀ : Shared) (c : Code) (fs : List Frame) (K : Flow → Sem PySem.Fin) (J : Value → Sem PySem.Fin) (gd : Bool → Bool) (lv : List Value → List Value) (s : Shared) (σ : St) (H : Hp) (D : GEnds) (Z : Cx),
    (∀ p ∈ X.pn ++ ip, p.1 ∉ Dl.ad) → Seat Fm n₀ Dl ys s₀ Z → GC3 X A c fs gd → n + ys.length = sizeLine → GK3 Fm n₀ X Dl ip A R c fs K J D → Inv Z (Dl.cp s₀ ++ ip) σ H s → t D ys σ H → Seg (model X.prog X.w) A R (X.Y3 n₀ Dl) n s₀ c (m.wrap K J gd lv) fs s
structure GQ (st : Stmt) (t : TGn) : Prop where
  run : GRun Fm n₀ X Dl (exec st X.env) t
structure GQs (st : List Stmt) (t : TGn) : Prop where
  run : GRun Fm n₀ X Dl (execs st X.env) t
end
section
variable {Fm : Cx → Prop} {n₀ : Nat} {X : Cx} {Dl : Deal} {st : Stmt} {rest : List Stmt}
theorem Fam.env (F : Fam Fm n₀ X) {Z : Cx} (h : Fm Z) : Z.env = X.env ∧ Z.A = X.A ∧ Z.prog = X.prog ∧ Z.w = X.w ∧ Z.outer = X.outer ∧ Z.pn = X.pn ∧ Z.base = X.base ∧ Z.ex = X.ex ∧ Z.K = X.K ∧ Z.calm = X.calm := by
  have q := F.same Z h
  refine ⟨?_, ?_, ?_, ?_, ?_, ?_, ?_, ?_, ?_, ?_⟩ <;> rw [q]
/-- a statement that hands out nothing -/
theorem gq_ps (F : Fam Fm n₀ X) {t : TS} (h : ∀ Z, Fm Z → PS Z st t) : GQ Fm n₀ X Dl st (tPlain t) := by
  refine ⟨fun A ip R n ys s₀ c fs K J gd lv s σ H D Z hip z g hn k I ht => seg_wrap ?_⟩
  obtain ⟨e1, e2, e3, e4, _⟩ := F.env z.fm
  have q := (h Z z.fm).run (Dl.cp s₀ ++ ip) s σ H (D.at ys) I ht
  rw [e1, e2, e3, e4] at q
  rw [g.over]
  exact wpAny_mono q (fun f s' hs => k.ok n ys s₀ s' f Z z hn hs) fun x s' hx => k.exc n ys s₀ x s' Z z hx
theorem gqs_pss (F : Fam Fm n₀ X) {t : TS} (h : ∀ Z, Fm Z → PSs Z rest t) : GQs Fm n₀ X Dl rest (tPlain t) := by
  refine ⟨fun A ip R n ys s₀ c fs K J gd lv s σ H D Z hip z g hn k I ht => seg_wrap ?_⟩
  obtain ⟨e1, e2, e3, e4, _⟩ := F.env z.fm
  have q := (h Z z.fm).run (Dl.cp s₀ ++ ip) s σ H (D.at ys) I ht
  rw [e1, e2, e3, e4] at q
  rw [g.over]
  exact wpAny_mono q (fun f s' hs => k.ok n ys s₀ s' f Z z hn hs) fun x s' hx => k.exc n ys s₀ x s' Z z hx
theorem gqs_nil : GQs Fm n₀ X Dl [] tG0 :=
  ⟨fun A ip R n ys s₀ c fs K J gd lv s σ H D Z hip z g hn k I ht => seg_execs_nil (k.ok n ys s₀ s .next Z z hn ⟨σ, H, I, ht⟩)⟩
theorem gqs_cons {t u : TGn} (a : GQ Fm n₀ X Dl st t) (b : GQs Fm n₀ X Dl rest u) : GQs Fm n₀ X Dl (st :: rest) (tGThen t u) := by
  refine ⟨fun A ip R n ys s₀ c fs K J gd lv s σ H D Z hip z g hn k I ht => seg_execs_cons ?_⟩
  refine a.run A ip R n ys s₀ c fs _ J gd lv s σ H { D with nx := fun ys' σ' H' => u D ys' σ' H' } Z hip z g hn ⟨fun n' ys' s₀' s' f Z' z' hn' hs => ?_, k.exc⟩ I ht
  cases f with
  | next =>
    obtain ⟨σ', H', I', q⟩ := hs
    exact b.run A ip R n' ys' s₀' c fs K J gd lv s' σ' H' D Z' hip z' g hn' k I' q
  | brk => exact k.ok n' ys' s₀' s' .brk Z' z' hn' hs
  | cont => exact k.ok n' ys' s₀' s' .cont Z' z' hn' hs
  | ret u => exact k.ok n' ys' s₀' s' (.ret u) Z' z' hn' hs
theorem gq_if (F : Fam Fm n₀ X) {test : Expr} {body orelse : List Stmt} {pos : Pos} {tc : TT} {t u : TGn} (hc : ∀ Z, Fm Z → PT Z test tc) (hb : GQs Fm n₀ X Dl body t) (ho : GQs Fm n₀ X Dl orelse u) : GQ Fm n₀ X Dl (.If test body orelse pos) (tGIf tc t u) := by
  refine ⟨fun A ip R n ys s₀ c fs K J gd lv s σ H D Z hip z g hn k I ht => gseg_if ?_⟩
  obtain ⟨e1, e2, e3, e4, _⟩ := F.env z.fm
  have q := (hc Z z.fm).run (Dl.cp s₀ ++ ip) s σ H _ I ht
  rw [e1, e2, e3, e4] at q
  rw [g.over]
  refine wpAny_mono q (fun b s' hb' => ?_) fun x s' hx => k.exc n ys s₀ x s' Z z hx
  obtain ⟨H2, I2, q2⟩ := hb'
  cases b with
  | true => exact hb.run A ip R n ys s₀ c fs K J gd lv s' σ H2 D Z hip z g hn k I2 q2
  | false => exact ho.run A ip R n ys s₀ c fs K J gd lv s' σ H2 D Z hip z g hn k I2 q2
/-! ### yield -/
def tYield3 (Dl : Deal) (te : TE) : TGn := fun D ys σ H => ys.length < sizeLine ∧ te σ H fun x H1 => Dl.yd ys x H1 ∧ ∀ H2, Dl.kp ys x H1 H2 → D.nx (ys ++ [x]) σ H2
theorem gq_yield (F : Fam Fm n₀ X) {e : Expr} {yp pos : Pos} {te : TE} (he : ∀ Z, Fm Z → PE Z e te) (hco : X.env.scope.isCoroutine = false := by rfl) (hi : interactive X.env = false := by rfl) : GQ Fm n₀ X Dl (.Expr (.Yield (some e) yp) pos) (tYield3 Dl te) := by
  refine ⟨fun A ip R n ys s₀ c fs K J gd lv s σ H D Z hip z g hn k I ht => ?_⟩
  obtain ⟨hlt, ht⟩ := ht
  obtain ⟨n, rfl⟩ : ∃ m, n = m + 1 := ⟨n - 1, by omega⟩
  obtain ⟨e1, e2, e3, e4, e5, e6, _⟩ := F.env z.fm
  have q := (he Z z.fm).run (Dl.cp s₀ ++ ip) s σ H _ I ht
  rw [e1, e2, e3, e4] at q
  refine seg_Expr_Yield g.split g.gd g.guard ?_ hco hi
  rw [g.over]
  refine wpAny_mono q (fun v s' hv => ?_) fun x s' hx => k.exc _ ys s₀ x s' Z z hx
  obtain ⟨x, H1, I1, rv, yd, cont⟩ := hv
  intro kap hk
  have hb := I1.base
  have hfs : Z.fs = frs X.outer := by show frs Z.outer = _; rw [e5]
  have hex : Z.ex = [] := by rw [F.same Z z.fm]; exact F.ex
  rw [hfs, hex, z.at0] at hb
  refine ⟨ys, x, Z.H_0, H1, Mine Z ip, hn, rv, z.cs, z.sz, hb, by rw [I1.os, z.at0]; rfl, I1.bare, by rw [← e3, ← e4]; exact I1.hok, fun p hp => let ⟨r1, r2, _⟩ := I1.pin p (List.mem_append_left _ (by rw [e6]; exact hp)); ⟨r1, r2⟩, ?_, fun p hp => let ⟨r1, r2, _⟩ := I1.pin p (List.mem_append_right _ (List.mem_append_left _ hp)); ⟨r1, r2⟩, yd, fun b mb => ?_, fun b mb hb => ?_, fun H2 s2 wk cs2 mk kp => ?_⟩
  · have q := I1.sz
    rw [z.size] at q
    exact q
  · rw [← hfs]
    rcases mb with rfl | ⟨y, hy⟩ | ⟨p, hp, rfl⟩
    · obtain ⟨m, ⟨o, _, _, ho, _⟩, _⟩ := I1.loc
      refine ⟨I1.free, fun hm => ?_, o, ho⟩
      obtain ⟨_, o', ho', _⟩ := I1.ok.funs.mem hm
      exact absurd (Nat.lt_of_lt_of_le (Heap.lt_size ho') I1.ok.above) (Nat.lt_irrefl _)
    · obtain ⟨v, o, ho, _⟩ := I1.cell y b hy
      refine ⟨I1.freeC y b hy, fun hm => ?_, o, ho⟩
      obtain ⟨_, o', ho', hd'⟩ := I1.funs.mem hm
      have hfn : Z.fn y = true ∨ Z.fn y = false := by cases Z.fn y <;> simp
      rcases hfn with hf | hf
      · obtain ⟨_, o2, ho2, _⟩ := I1.ok.funs.mem hm
        exact absurd (Nat.lt_of_lt_of_le (Heap.lt_size ho2) (I1.ok.cab y b hf hy)) (Nat.lt_irrefl _)
      · exact absurd hf (by rw [F.fn Z z.fm y]; exact Bool.noConfusion)
    · obtain ⟨r1, r2, r3, r4, _⟩ := I1.pin p ((List.mem_append.mp hp).elim (List.mem_append_left _) fun h => List.mem_append_right _ (List.mem_append_right _ h))
      exact ⟨r2, r4, p.2, r1⟩
  · obtain ⟨o, ho⟩ := z.ad b hb
    obtain ⟨p1, _, p3, _, p5⟩ := I1.pin (b, o) (List.mem_append_right _ (List.mem_append_left _ (mem_pinsAt hb ho)))
    rcases mb with mb | ⟨y, hy⟩ | ⟨p, hp, rfl⟩
    · exact p3 mb
    · obtain ⟨v, o2, ho2, hd2⟩ := I1.cell y b hy
      rw [p1] at ho2
      cases ho2
      exact p5 _ hd2
    · exact hip p (by rw [← e6]; exact hp) hb
  · obtain ⟨Z', f1, f2, f3, I2⟩ := reseat F z.fm z.size I1 wk mk
    refine hk .none s2 (k.ok n (ys ++ [x]) s2 s2 .next Z' ⟨f1, f2, by rw [f3]; exact cs2, wk.sz, fun b hb => let ⟨_, _, _, o, e, _⟩ := wk.ad b hb; ⟨o, e⟩⟩ ?_ ⟨σ, H2, I2, cont H2 kp⟩)
    rw [List.length_append, List.length_singleton]; omega
end
end L2

set_option Elab.async false
set_option linter.all false
set_option maxRecDepth 100000
set_option maxHeartbeats 4000000
/-! its loops -/
namespace L2
open PySem PySem.Spec PyProof.Rows GenW
section
variable {Fm : Cx → Prop} {n₀ : Nat} {X : Cx} {Dl : Deal}
theorem GC3.loop {A : Around} {c c' : Code} {fs : List Frame} {gd : Bool → Bool} {k : Result → Sem PySem.Fin} {l kp : List Value} {p : Pos} (g : GC3 X A c fs gd) (hw : c'.weight = 0) (hu : c'.cUnits = 0) : GC3 X A c' (.ret k none (gd false) l c p kp :: fs) id := by
  refine ⟨(over_loop hw hu).trans g.over, ?_, ?_, rfl⟩
  · show Option.map _ (splitAtGen fs) = none
    rw [g.split]; rfl
  · show (gd false || List.any fs Frame.guarded) = false
    rw [g.gd, g.guard]; rfl
/-- what the loop's call goes on to -/
abbrev backK (env : Env) (K : Flow → Sem PySem.Fin) (J : Value → Sem PySem.Fin) (gd : Bool → Bool) (lv : List Value → List Value) : Result → Sem PySem.Fin := fun r => ((match r with | .ok f => (.pure f : Sem Flow) | .error e => .raise e).onRaise (cameBack env)).wrap K J gd lv
/-- an exception that leaves the loop's code -/
theorem mark3 {A : Around} {ip : List (Addr × Obj)} {R : GenEnd} {c c' : Code} {fs : List Frame} {K : Flow → Sem PySem.Fin} {J : Value → Sem PySem.Fin} {gd : Bool → Bool} {lv : List Value → List Value} {D : GEnds} {p : Pos} {Z : Cx} {n : Nat} {ys : List V} {s₀ s : Shared} {x : Value}
    (F : Fam Fm n₀ X) (z : Seat Fm n₀ Dl ys s₀ Z) (hp : PassesOwn (model X.prog X.w) X.A X.env Z.xe) (g : GC3 X A c fs gd) (k : GK3 Fm n₀ X Dl ip A R c fs K J D) (hw : c'.weight = 0) (hu : c'.cUnits = 0) (hx : Z.xe x s) :
    Seg (model X.prog X.w) A R (X.Y3 n₀ Dl) n s₀ c' (marked X.env x) (.ret (backK X.env K J gd lv) none (gd false) (lv []) c p [] :: fs) s := by
  have out : ∀ (y : Value) (s' : Shared), cameBackBy (model X.prog X.w) X.A X.env Z.xe y s' → Seg (model X.prog X.w) A R (X.Y3 n₀ Dl) n s₀ c (backK X.env K J gd lv (.error y)) fs s' := fun y s' h => by
    show Seg _ _ _ _ _ _ _ (((cameBack X.env y).bind fun _ => (Sem.raise y : Sem Flow)).wrap K J gd lv) _ _
    rw [Sem.bind_eq_wrap, Sem.wrap_wrap]
    refine seg_wrap ?_
    rw [g.over]
    exact wpAny_mono h (fun _ s2 hx => k.exc n ys s₀ y s2 Z z hx) fun u s2 hx => k.exc n ys s₀ u s2 Z z hx
  unfold marked
  rw [Sem.bind_eq_wrap]
  refine seg_wrap ?_
  rw [(g.loop (k := backK X.env K J gd lv) (l := lv []) (kp := []) (p := p) hw hu).over]
  exact wpAny_bind (wpAny_mono (hp x s hx) (fun _ s2 h => wpAny_theTreesLotGoes (seg_leaf (.error x) (out x s2 h))) fun y s2 h => seg_leaf (.error y) (out y s2 h))
theorem gq_while (F : Fam Fm n₀ X) {test : Expr} {body : List Stmt} {pos : Pos} {tc : TT} {tb : TGn} (hp : ∀ Z, Fm Z → PassesOwn (model X.prog X.w) X.A X.env Z.xe) (hc : ∀ Z, Fm Z → PT Z test tc) (hb : GQs Fm n₀ X Dl body tb) : GQ Fm n₀ X Dl (.While test body [] pos) (tGWhile tc tb) := by
  refine ⟨fun A ip R n ys s₀ c fs K J gd lv s σ H D Z hip z g hn k I ⟨W, ⟨m0, w0⟩, turn⟩ => seg_While fun p => ?_⟩
  have go : ∀ (m n : Nat) (ys : List V) (s₀ s : Shared) (σ : St) (H : Hp) (Z : Cx), Seat Fm n₀ Dl ys s₀ Z → n + ys.length = sizeLine → W m ys σ H → Inv Z (Dl.cp s₀ ++ ip) σ H s →
      Seg (model X.prog X.w) A R (X.Y3 n₀ Dl) n s₀ (.whileLoop test body [] X.env) ((model X.prog X.w).den (.whileLoop test body [] X.env)) (.ret (backK X.env K J gd lv) none (gd false) (lv []) c p [] :: fs) s := by
    intro m
    induction m using Nat.strongRecOn with
    | ind m ih =>
      intro n ys s₀ s σ H Z z hn w I
      obtain ⟨e1, e2, e3, e4, _⟩ := F.env z.fm
      have gl := g.loop (k := backK X.env K J gd lv) (l := lv []) (kp := []) (p := p) (c' := .whileLoop test body [] X.env) rfl rfl
      have em : ∀ (x : Value) (env : Env), ((do noteFrame x env; theTreesLotGoes x : Sem Unit).wrap (fun _ => (.raise x : Sem PySem.Fin)) .raise id id) = marked env x := fun x env => by unfold marked; rw [Sem.bind_eq_wrap]
      refine seg_whileLoop ?_
      rw [gl.over]
      have q := (hc Z z.fm).run (Dl.cp s₀ ++ ip) s σ H _ I (turn m ys σ H w)
      rw [e1, e2, e3, e4] at q
      refine wpAny_mono q (fun b s' hb' => ?_) fun x s' hx => by rw [em]; exact mark3 F z (hp Z z.fm) g k rfl rfl hx
      obtain ⟨H2, I2, q2⟩ := hb'
      cases b with
      | false =>
        rw [if_neg Bool.false_ne_true]
        exact seg_execs_nil (seg_leaf (.ok .next) (k.ok n ys s₀ s' .next Z z hn ⟨σ, H2, I2, q2⟩))
      | true =>
        obtain ⟨N, hN, q2⟩ := q2
        rw [if_pos rfl]
        refine hb.run A ip R n ys s₀ _ _ _ _ id id s' σ H2 { D with nx := N, ct := N, bk := D.nx } Z hip z gl hn ⟨fun n' ys' s₀' s3 f Z' z' hn' hs => ?_, fun n' ys' s₀' x s3 Z' z' hx => by rw [em]; exact mark3 F z' (hp Z' z'.fm) g k rfl rfl hx⟩ I2 q2
        cases f with
        | brk => exact seg_leaf (.ok .next) (k.ok n' ys' s₀' s3 .next Z' z' hn' hs)
        | ret v => exact seg_leaf (.ok (.ret v)) (k.ok n' ys' s₀' s3 (.ret v) Z' z' hn' hs)
        | next =>
          obtain ⟨σ3, H3, I3, n3⟩ := hs
          obtain ⟨m', hm, w3⟩ := hN ys' σ3 H3 n3
          exact seg_again rfl (ih m' hm n' ys' s₀' s3 σ3 H3 Z' z' hn' w3 I3)
        | cont =>
          obtain ⟨σ3, H3, I3, n3⟩ := hs
          obtain ⟨m', hm, w3⟩ := hN ys' σ3 H3 n3
          exact seg_again rfl (ih m' hm n' ys' s₀' s3 σ3 H3 Z' z' hn' w3 I3)
  exact go m0 n ys s₀ s σ H Z z hn w0 I
theorem gq_for (F : Fam Fm n₀ X) {tg iter : Expr} {body : List Stmt} {pos : Pos} {wi : TI} {gt : TG} {tb : TGn} (hp : ∀ Z, Fm Z → PassesOwn (model X.prog X.w) X.A X.env Z.xe) (hcm : X.calm = true) (hi : ∀ Z, Fm Z → PI Z tg iter wi) (hg : ∀ Z, Fm Z → PG Z tg gt) (hb : GQs Fm n₀ X Dl body tb)
    (hs : ∀ x, foldedSetIterable iter X.env x = pure x := by intro _; rfl) : GQ Fm n₀ X Dl (.For tg iter body [] pos) (tGFor wi gt tb) := by
  refine ⟨fun A ip R n ys s₀ c fs K J gd lv s σ H D Z hip z g hn k I ht => gseg_for hs ?_⟩
  obtain ⟨e1, e2, e3, e4, e5, e6, e7, e8, e9, e10⟩ := F.env z.fm
  have q := (hi Z z.fm).run (Dl.cp s₀ ++ ip) s σ H _ I ht
  rw [e1, e2, e3, e4] at q
  rw [g.over]
  refine wpAny_mono q (fun v s1 h1 => wpAny_mono h1 (fun itv s2 h2 p => ?_) fun x s' hx => k.exc n ys s₀ x s' Z z hx) fun x s' hx => k.exc n ys s₀ x s' Z z hx
  obtain ⟨it, fp, tn, Jt, H2, rfl, I2, T, st2, f2, W, ⟨m0, w0⟩, turn⟩ := h2
  rw [e3, e4, e9] at T
  have loop : ∀ (m n i : Nat) (ys : List V) (s₀ s : Shared) (σ : St) (H : Hp) (Z : Cx), Seat Fm n₀ Dl ys s₀ Z → n + ys.length = sizeLine → W i m ys σ H → tn i s.heap → (∀ b ∈ fp, FpOk Z (Dl.cp s₀ ++ ip) H b) → Inv Z (Dl.cp s₀ ++ ip) σ H s →
      Seg (model X.prog X.w) A R (X.Y3 n₀ Dl) n s₀ (.forLoop tg (.ref it) body [] X.env) ((model X.prog X.w).den (.forLoop tg (.ref it) body [] X.env)) (.ret (backK X.env K J gd lv) none (gd false) (lv []) c p [] :: fs) s := by
    intro m
    induction m using Nat.strongRecOn with
    | ind m ih =>
      intro n i ys s₀ s σ3 H3 Z z hn w3 st3 fr3 I3
      obtain ⟨e1, e2, e3, e4, e5, e6, e7, e8, e9, e10⟩ := F.env z.fm
      have gl := g.loop (k := backK X.env K J gd lv) (l := lv []) (kp := []) (p := p) (c' := .forLoop tg (.ref it) body [] X.env) rfl rfl
      have gb := g.loop (k := backK X.env K J gd lv) (l := lv []) (kp := []) (p := p) (c' := .block [] X.env) rfl rfl
      have ee : ∀ (n : Nat) (ys : List V) (s₀ : Shared) (x : Value) (s' : Shared) (Z : Cx), Seat Fm n₀ Dl ys s₀ Z → Z.xe x s' → Seg (model X.prog X.w) A R (X.Y3 n₀ Dl) n s₀ (.forLoop tg (.ref it) body [] X.env) (marked X.env x) (.ret (backK X.env K J gd lv) none (gd false) (lv []) c p [] :: fs) s' :=
        fun n ys s₀ x s' Z z hx => mark3 F z (hp Z z.fm) g k rfl rfl hx
      refine gseg_turn ?_
      rw [gl.over]
      have cz : Z.calm = true := e10.trans hcm
      rcases turn i m ys σ3 H3 w3 with ⟨stop, qn⟩ | ⟨go, N, hN, step⟩
      · have q := T.done Z e3 e4 e9 cz i (Dl.cp s₀ ++ ip) s σ3 H3 Z.xe I3 fr3 st3 stop
        rw [e2] at q
        refine wpAny_mono q (fun r s4 hr => ?_) fun x s' hx => ee n ys s₀ x s' Z z hx
        obtain ⟨rfl, I4⟩ := hr
        refine seg_again rfl ?_
        show Seg _ A R _ n s₀ _ (((execs [] X.env).onRaise (fun x => do noteFrame x X.env; theTreesLotGoes x)) >>= fun f => (.pure (.done f) : Sem PySem.Fin)) _ s4
        exact seg_leaf (.ok .next) (k.ok n ys s₀ s4 .next Z z hn ⟨σ3, H3, I4, qn⟩)
      · have q := T.item Z e3 e4 e9 cz i (Dl.cp s₀ ++ ip) s σ3 H3 Z.xe I3 fr3 st3 go
        rw [e2] at q
        refine wpAny_mono q (fun r s4 hr => ?_) fun x s' hx => ee n ys s₀ x s' Z z hx
        obtain ⟨u, rfl, h4⟩ := hr
        refine wpAny_mono h4 (fun _ s5 h5 => ?_) fun x s' hx => ee n ys s₀ x s' Z z hx
        obtain ⟨x, H5, I5, r5, y5, st5, fr5⟩ := h5
        have stat5 : ∀ b ∈ fp, FpOk Z (Dl.cp s₀ ++ ip) H5 b := fun b hb => ⟨fr5 b hb, (fr3 b hb).2⟩
        have I5' := I5.pinned stat5 (T.obj _ _ st5)
        have q6 := (hg Z z.fm).run _ s5 σ3 H5 x u _ I5' r5 (step x H5 y5)
        rw [e1, e2, e3, e4] at q6
        refine wpAny_mono q6 (fun _ s6 h6 => ?_) fun x s' hx => ee n ys s₀ x s' Z z hx
        obtain ⟨σ6, H6, I6, q6⟩ := h6
        have hip2 : ∀ p ∈ X.pn ++ (ip ++ pinsAt fp s5.heap), p.1 ∉ Dl.ad := fun p hp hb => by
          rcases List.mem_append.mp hp with hp | hp
          · exact hip p (List.mem_append_left _ hp) hb
          rcases List.mem_append.mp hp with hp | hp
          · exact hip p (List.mem_append_right _ hp) hb
          · obtain ⟨hf, _⟩ := of_pinsAt hp
            obtain ⟨o', e'⟩ := z.ad p.1 hb
            exact (fr3 p.1 hf).2.2.2.2.2 (p.1, o') (List.mem_append_right _ (List.mem_append_left _ (mem_pinsAt hb e'))) rfl
        refine hb.run A (ip ++ pinsAt fp s5.heap) R n ys s₀ _ _ _ _ id id s6 σ6 H6 { D with nx := N, ct := N, bk := D.nx } Z hip2 z gl hn ⟨fun n' ys' s₀' s7 f Z' z' hn' hs => ?_, fun n' ys' s₀' x s7 Z' z' hx => ee n' ys' s₀' x s7 Z' z' hx⟩ (by rw [← List.append_assoc]; exact I6) q6
        have q1 := F.same Z z.fm
        have q2 := F.same Z' z'.fm
        have back : ∀ {σ7 : St} {H7 : Hp}, Inv Z' (Dl.cp s₀' ++ (ip ++ pinsAt fp s5.heap)) σ7 H7 s7 → Inv Z' (Dl.cp s₀' ++ ip) σ7 H7 s7 ∧ tn (i + 1) s7.heap ∧ ∀ b ∈ fp, FpOk Z' (Dl.cp s₀' ++ ip) H7 b := fun {σ7 H7} h7 => by
          rw [← List.append_assoc] at h7
          have pin : ∀ b ∈ fp, ∀ o, s5.heap.get? b = some o → s7.heap.get? b = some o ∧ H7 b = none := fun b hb o e => by
            obtain ⟨r1, r2, _⟩ := h7.pin (b, o) (List.mem_append_right _ (List.mem_append_right _ (mem_pinsAt hb e)))
            exact ⟨r1, r2⟩
          refine ⟨h7.unpinned, T.keep _ _ _ st5 fun b hb o e => (pin b hb o e).1, fun b hb => ?_⟩
          obtain ⟨o, e, _⟩ := T.obj _ _ st5 b hb
          obtain ⟨_, t1, t2, t3, t4, t5⟩ := fr3 b hb
          refine ⟨(pin b hb o e).2, ?_, ?_, ?_, ?_, ?_⟩
          · rw [q2]; rw [q1] at t1; exact t1
          · show b ∉ frs Z'.outer
            rw [q2]; have t2' : b ∉ frs Z.outer := t2; rw [q1] at t2'; exact t2'
          · rw [q2]; rw [q1] at t3
            show b ∈ X.ex ∨ Z'.s_0.heap.objs.size ≤ b
            rw [z'.size, ← z.size]; exact t3
          · rw [q2]; rw [q1] at t4; exact t4
          · rw [q2]; rw [q1] at t5
            intro p hp
            rcases List.mem_append.mp hp with hp | hp
            · exact t5 p (List.mem_append_left _ hp)
            rcases List.mem_append.mp hp with hp | hp
            · obtain ⟨hb', _⟩ := of_pinsAt hp
              obtain ⟨o', e'⟩ := z.ad p.1 hb'
              exact t5 (p.1, o') (List.mem_append_right _ (List.mem_append_left _ (mem_pinsAt hb' e')))
            · exact t5 p (List.mem_append_right _ (List.mem_append_right _ hp))
        cases f with
        | next =>
          obtain ⟨σ7, H7, G7, n7⟩ := hs
          obtain ⟨m', hm, w7⟩ := hN ys' σ7 H7 n7
          obtain ⟨G8, st8, fr8⟩ := back G7
          exact seg_again rfl (ih m' hm n' (i + 1) ys' s₀' s7 σ7 H7 Z' z' hn' w7 st8 fr8 G8)
        | cont =>
          obtain ⟨σ7, H7, G7, n7⟩ := hs
          obtain ⟨m', hm, w7⟩ := hN ys' σ7 H7 n7
          obtain ⟨G8, st8, fr8⟩ := back G7
          exact seg_again rfl (ih m' hm n' (i + 1) ys' s₀' s7 σ7 H7 Z' z' hn' w7 st8 fr8 G8)
        | brk =>
          obtain ⟨σ7, H7, G7, n7⟩ := hs
          exact seg_leaf (.ok .next) (k.ok n' ys' s₀' s7 .next Z' z' hn' ⟨σ7, H7, (back G7).1, n7⟩)
        | ret v =>
          obtain ⟨x7, σ7, H7, G7, r7, n7⟩ := hs
          exact seg_leaf (.ok (.ret v)) (k.ok n' ys' s₀' s7 (.ret v) Z' z' hn' ⟨x7, σ7, H7, (back G7).1, r7, n7⟩)
  exact loop m0 n 0 ys s₀ s2 σ H2 Z z hn w0 st2 f2 I2
end
end L2

set_option Elab.async false
set_option linter.all false
set_option maxRecDepth 100000
set_option maxHeartbeats 4000000
/-! a generator def by its body -/
namespace L2
open PySem PySem.Spec PyProof.Rows GenW
/-- the promise: the arguments, the heap, the deal, what is wanted at the end of all that was handed out, the exception -/
abbrev SpG3 := List V → Hp → Deal → (List V → Hp → Prop) → XK → Prop
section
variable (P : Program) (w : World) (outer : List Env) (n₀ : Nat) (Dl : Deal)
def Er3 (E : XK) (a : Addr) (g : Nat) : Value → Shared → Prop := fun e s1 => ∃ ys HE sE, Dl.cs ys HE sE ∧ n₀ ≤ sE.heap.objs.size ∧ CX P w outer HE (headS sE n₀) E e s1 ∧ s1.heap.IsGen a g
def Fin3 (Q : List V → Hp → Prop) : Nat → Shared → Shared → Prop := fun n s₀ s1 => ∃ ys HE H', Dl.cs ys HE s₀ ∧ n₀ ≤ s₀.heap.objs.size ∧ s1.os = s₀.os ∧ AllBare s1.gens ∧ Un (frs outer) [] HE H' (headH s₀.heap n₀) s1.heap ∧ HOk P w H' s1.heap ∧ (∀ p ∈ Dl.cp s₀, s1.heap.get? p.1 = some p.2 ∧ H' p.1 = none) ∧ Q ys H'
abbrev End3 (Q : List V → Hp → Prop) (E : XK) (a : Addr) (g : Nat) : GenEnd := fun n s₀ r s1 => ((r = .ok (.ret .none) ∨ r = .ok .next) ∧ Fin3 P w outer n₀ Dl Q n s₀ s1) ∨ ∃ e, r = .error e ∧ Er3 P w outer n₀ Dl E a g e s1
end
/-- the deal, with the consumer's places -/
abbrev Deal.at (Dl : Deal) (ad : List Addr) : Deal := { Dl with ad := ad }
/-- what its call gives -/
def Made3 (P : Program) (w : World) (k : Nat) (base : Heap) (outer : List Env) (H : Hp) (s : Shared) (AD : Deal → (List V → Hp → Prop) → Prop) (E : XK) (u : Value) (s' : Shared) : Prop :=
  ∃ (a : Addr) (g : Nat) (c : Code) (go : Obj), u = .ref a ∧ s.heap.objs.size ≤ a ∧ a < s'.heap.objs.size ∧ s'.heap.get? a = some go ∧ (∀ h : Heap, h.get? a = some go → h.IsGen a g) ∧ s'.gens[g]? = some (.fresh c) ∧ s'.os = s.os ∧ AllBare s'.gens ∧ (∀ b o, s.heap.get? b = some o → s'.heap.get? b = some o) ∧
    ∀ (A : Around) (s2 : Shared) (Dl : Deal) (Q : List V → Hp → Prop), AD Dl Q → Room k A → A.frames = some outer → (∀ b o, s'.heap.get? b = some o → s2.heap.get? b = some o) → s2.os = s.os → AllBare s2.gens → (∀ b ∈ Dl.ad, s'.heap.objs.size ≤ b ∧ ∃ o, s2.heap.get? b = some o ∧ ∀ v, o.data ≠ .cell v) → Dl.cs [] H s2 →
      Seg (model P w) A (End3 P w outer s.heap.objs.size Dl Q E a g) (GY3 P w base outer [(a, go)] s.heap.objs.size Dl) sizeLine s2 c ((model P w).den c) [] s2
structure GFn3 (P : Program) (w : World) (K : PySem.W.Frag) (mg : Str → Option Value) (base : Heap) (k : Nat) (f : Addr) (fd : FuncData) (ps : List Str) (sp : SpG3) : Prop where
  len : ∀ vs H Dl Q E, sp vs H Dl Q E → vs.length = ps.length
  run : ∀ (A : Around) (outer : List Env) (s : Shared) (H : Hp) (args : Args) (us : List Value) (vs : List V) (AD : Deal → (List V → Hp → Prop) → Prop) (E : XK), (∃ Dl Q, AD Dl Q) → Room k A → Env0 P w K mg base A outer s H → BindsTo s fd args (ps.zip us) → Vals vs us → (∀ Dl Q, AD Dl Q → sp vs H Dl Q E) →
    codeAny (model P w) A (.call (.ref f) args) (fun r s' => match r with | .ok (.ret u) => Made3 P w k base outer H s AD E u s' | _ => False) s
section
variable {P : Program} {w : World} {K : PySem.W.Frag} {mg : Str → Option Value} {base : Heap}
/-- the family of a call: its frame stands at n₀ -/
def FmG (P : Program) (w : World) (K : PySem.W.Frag) (mg : Str → Option Value) (base : Heap) (N : List Str) (qual : Str) (scope : Scope) (f : Addr) (cd : Value) (A : Around) (outer : List Env) (E : XK) (pn : List (Addr × Obj)) (n₀ : Nat) (Z : Cx) : Prop :=
  ∃ s H, s.heap.objs.size = n₀ ∧ Z = gcxOf P w K mg base N qual scope f cd A outer s H E pn
theorem fam_g {N : List Str} {qual : Str} {scope : Scope} {f : Addr} {cd : Value} {A : Around} {outer : List Env} {E : XK} {pn : List (Addr × Obj)} {s : Shared} {H : Hp} (hb : base.objs.size ≤ s.heap.objs.size) :
    Fam (FmG P w K mg base N qual scope f cd A outer E pn s.heap.objs.size) s.heap.objs.size (gcxOf P w K mg base N qual scope f cd A outer s H E pn) := by
  refine ⟨fun Z ⟨s', H', hs, hZ⟩ => ?_, fun s' H' hs => ⟨_, ⟨s', H', hs, rfl⟩, rfl, rfl⟩, rfl, hb, fun Z ⟨s', H', hs, hZ⟩ x => (by rw [hZ]; rfl), rfl⟩
  subst hZ
  unfold gcxOf cxOf
  rw [hs]
/-- a member's room -/
theorem FmG.room {qual : Str} {scope : Scope} {f : Addr} {cd : Value} {A : Around} {s s' : Shared} {k : Nat} (hr : Room k (A.deeper (envOfC qual scope s.heap.objs.size f cd))) (hs : s'.heap.objs.size = s.heap.objs.size) :
    Room k (A.deeper (envOfC qual scope s'.heap.objs.size f cd)) := by rw [hs]; exact hr
theorem gfn3_of {k : Nat} {f : Addr} {name qual : Str} {params : Arguments} {body : List Stmt} {scope : Scope} {dV kV doc pm cdv ct oc : Value} {an od : Option Addr}
    {osl : Array (Option Value)} {N ps : List Str} {sp : SpG3} (lk : K.lookup f = some ⟨oc, od, .func (PySem.W.fnOf name qual params body scope dV kV doc pm an cdv ct), osl⟩) (hcd : PySem.W.codeIn K cdv qual = true) (S : GScope N ps scope)
    (len : ∀ vs H Dl Q E, sp vs H Dl Q E → vs.length = ps.length)
    (hbody : ∀ (A : Around) (outer : List Env) (s : Shared) (H : Hp) (vs : List V) (Dl : Deal) (Q : List V → Hp → Prop) (E : XK) (pn : List (Addr × Obj)), base.objs.size ≤ s.heap.objs.size → Room k (A.deeper (envOfC qual scope s.heap.objs.size f cdv)) → sp vs H Dl Q E →
      ∃ t, GQs (FmG P w K mg base N qual scope f cdv A outer E pn s.heap.objs.size) s.heap.objs.size (gcxOf P w K mg base N qual scope f cdv A outer s H E pn) Dl body t ∧ t { nx := fun ys _ H' => Q ys H', rt := fun ys v H' => v = .non ∧ Q ys H' } [] (start N vs) H) :
    GFn3 P w K mg base (k + 1) f (PySem.W.fnOf name qual params body scope dV kV doc pm an cdv ct) ps sp := by
  refine ⟨len, fun A outer s H args us vs AD E hAD hr e0 hb r hsp => ?_⟩
  obtain ⟨Dl0, Q0, hA0⟩ := hAD
  have hl := len _ _ _ _ _ (hsp Dl0 Q0 hA0)
  have kin : K.In s.heap := e0.mod.kin.keeps fun b o e => (e0.bs b o e).1
  have lim : s.heap.NoLimit := e0.mod.nolimit.keeps fun b o e => (e0.bs b o e).1
  have kinds : ∀ y ∈ ps.zip us, scope.names.lookup y.1 = some .local ∨ (scope.names.lookup y.1 = some .cell ∧ ((cellsFrom (s.heap.objs.size + 1) scope.names []).lookup y.1).isSome = true) := fun ⟨n, v⟩ hy =>
    (S.par n (List.of_mem_zip hy).1).imp id fun q => ⟨q, PySem.W.cellsFrom_some _ _ _ (.inl q)⟩
  refine codeAny_call_generator hr.depth (kin _ _ lk) rfl S.co S.gen rfl (PySem.W.codeRec_of kin hcd) (hb _ _ _ _ (wpAny_newFunctionEnv_cells S.kind kinds fun env he s1 x => ?_))
  subst he
  have lim1 : s1.heap.NoLimit := lim.keeps x.toInCall.keep
  refine ⟨lim1, ?_⟩
  obtain ⟨h1, tk, es1, hk1⟩ := x.done
  have os1 : s1.os = s.os := by rw [es1]
  have gen1 : s1.gens = s.gens := by rw [es1]
  have lt1 : s.heap.objs.size < s1.heap.objs.size := x.toInCall.ns.lt
  have kp1 : ∀ b o, s.heap.get? b = some o → s1.heap.get? b = some o := x.toInCall.keep
  have main : ∀ (go : Obj) (nm qn : Value) (tk2 : Nat), go.cls = .type "generator" → go.data = .fields #[.int s1.gens.size 0, nm, qn] → go.slots = #[] → (∀ h : Heap, (h.push go).get? h.objs.size = some go) →
      Made3 P w (k + 1) base outer H s AD E (.ref s1.heap.objs.size) { s1 with gens := s1.gens.push (.fresh (.func body (envOfC qual scope s.heap.objs.size f cdv))), toks := tk2, heap := s1.heap.push go } := by
    intro go nm qn tk2 hgc hgd hgs hgp
    have isg : ∀ h : Heap, h.get? s1.heap.objs.size = some go → h.IsGen s1.heap.objs.size s1.gens.size := fun h e => ⟨go, nm, qn, e, hgc, hgd, hgs⟩
    refine ⟨s1.heap.objs.size, s1.gens.size, _, go, rfl, Nat.le_of_lt lt1, ?_, hgp _, isg, Array.getElem?_push_size .., os1, ?_, fun b o e => Heap.get?_push_of_some _ (kp1 b o e), ?_⟩
    · show _ < (s1.heap.push _).objs.size
      rw [Heap.size_push]; exact Nat.lt_succ_self _
    · exact AllBare.push (by rw [gen1]; exact e0.bare) rfl
    intro Aw s2 Dl Q hA hrw hfr hk2 hos hba had hcs
    have kp2 : ∀ b o, s1.heap.get? b = some o → s2.heap.get? b = some o := fun b o e => hk2 b o (Heap.get?_push_of_some _ e)
    have kp3 : ∀ b o, s.heap.get? b = some o → s2.heap.get? b = some o := fun b o e => kp2 b o (kp1 b o e)
    have hea : s2.heap.get? s1.heap.objs.size = some go := hk2 s1.heap.objs.size go (hgp _)
    have sz2 : s.heap.objs.size ≤ s2.heap.objs.size := Nat.le_of_lt (Nat.lt_trans lt1 (Heap.lt_size hea))
    have e0w : Env0 P w K mg base Aw outer s H := ⟨hfr, e0.mod, e0.bs, e0.bsz, e0.funs, e0.frf, e0.hok, e0.bare⟩
    obtain ⟨t, ht, hq⟩ := hbody Aw outer s H vs Dl Q E [(s1.heap.objs.size, go)] e0.bsz (hrw.deeper _) (hsp Dl Q hA)
    have I1 : Inv (gcxOf P w K mg base N qual scope f cdv Aw outer s H E []) [] (start N vs) H s1 := inv_startG S hrw.hd e0w hl r x
    have I2 : Inv (gcxOf P w K mg base N qual scope f cdv Aw outer s H E []) [] (start N vs) H s2 := I1.call' (ch := []) (hos.trans os1.symm) (Un.kept kp2) (I1.hok.kept kp2) hba fun b z => nomatch z
    have hn1 : H s1.heap.objs.size = none := I1.hok.fresh (Nat.le_refl _)
    have hado : AdOk Dl.ad s.heap.objs.size outer H s2.heap := fun b hb => by
      obtain ⟨q1, q2⟩ := had b hb
      have q1 : (s1.heap.push go).objs.size ≤ b := q1
      rw [Heap.size_push] at q1
      have q3 : s1.heap.objs.size ≤ b := Nat.le_of_succ_le q1
      exact ⟨Nat.lt_of_lt_of_le lt1 q3, I1.hok.fresh q3, I1.nofs q3, q2⟩
    have I3 : Inv (gcxOf P w K mg base N qual scope f cdv Aw outer s H E [(s1.heap.objs.size, go)]) (pinsAt Dl.ad s2.heap ++ []) (start N vs) H s2 := Inv.pinnedG I2 fun p hp => by
      rcases List.mem_append.mp hp with hp | hp
      · rw [List.mem_singleton.mp hp]
        exact ⟨hea, hn1, Nat.ne_of_gt lt1, I1.nofs (Nat.le_refl _), fun v q => by rw [hgd] at q; cases q⟩
      · rw [List.append_nil] at hp
        obtain ⟨hb, e⟩ := of_pinsAt hp
        obtain ⟨w1, w2, w3, o, w4, w5⟩ := hado p.1 hb
        rw [e] at w4
        cases w4
        exact ⟨e, w2, Nat.ne_of_gt w1, w3, w5⟩
    have F := fam_g (P := P) (w := w) (K := K) (mg := mg) (N := N) (qual := qual) (scope := scope) (f := f) (cd := cdv) (A := Aw) (outer := outer) (E := E) (pn := [(s1.heap.objs.size, go)]) (s := s) (H := H) e0.bsz
    have wk : Wk P w base outer s.heap.objs.size Dl.ad H s2 := by
      refine ⟨hba, fun b o e => ⟨kp3 b o (e0.bs b o e).1, (e0.bs b o e).2⟩, Heap.FunFrames.of_keeps (fun b o e _ => ⟨o, kp3 b o e, rfl⟩) e0.funs, fun b hb => ?_, e0.hok.kept kp3, sz2, hado⟩
      obtain ⟨_, o, ho, _⟩ := e0.funs.mem hb
      exact ⟨Heap.lt_size ho, e0.frf b hb⟩
    obtain ⟨Z, f1, f2, f3, I4⟩ := reseat F (Z := gcxOf P w K mg base N qual scope f cdv Aw outer s H E [(s1.heap.objs.size, go)]) ⟨s, H, rfl, rfl⟩ rfl I3 wk fun b mb o e => ⟨e, by
      rcases mb with rfl | ⟨y, hy⟩ | ⟨p, hp, rfl⟩
      · exact I3.free
      · exact I3.freeC y b hy
      · exact (I3.pin p ((List.mem_append.mp hp).elim (List.mem_append_left _) fun h => (by cases h))).2.1⟩
    have zz : Seat (FmG P w K mg base N qual scope f cdv Aw outer E [(s1.heap.objs.size, go)] s.heap.objs.size) s.heap.objs.size Dl [] s2 Z := ⟨f1, f2, by rw [f3]; exact hcs, sz2, fun b hb => let ⟨_, _, _, o, e, _⟩ := hado b hb; ⟨o, e⟩⟩
    have fin : ∀ {n : Nat} {ys : List V} {s₀ s' : Shared} {σ' : St} {H' : Hp} {Z : Cx}, Seat (FmG P w K mg base N qual scope f cdv Aw outer E [(s1.heap.objs.size, go)] s.heap.objs.size) s.heap.objs.size Dl ys s₀ Z → Inv Z (Dl.cp s₀ ++ []) σ' H' s' → Q ys H' → Fin3 P w outer s.heap.objs.size Dl Q n s₀ s' := fun {n ys s₀ s' σ' H' Z} z I q => by
      obtain ⟨e1, e2, e3, e4, e5, e6, e7, e8, _⟩ := F.env z.fm
      have hb := I.base
      have hfs : Z.fs = frs outer := by show frs Z.outer = _; rw [e5]; rfl
      have hex : Z.ex = [] := by rw [e8]; rfl
      rw [hfs, hex, z.at0] at hb
      have hk := I.hok
      rw [e3, e4] at hk
      exact ⟨ys, Z.H_0, H', z.cs, z.sz, by rw [I.os, z.at0]; rfl, I.bare, hb, hk, fun p hp => let ⟨r1, r2, _⟩ := I.pin p (List.mem_append_right _ (List.mem_append_left _ hp)); ⟨r1, r2⟩, q⟩
    have hip0 : ∀ p ∈ [(s1.heap.objs.size, go)] ++ ([] : List (Addr × Obj)), p.1 ∉ Dl.ad := fun p hp hb => by
      rw [List.append_nil] at hp
      have q1 : (s1.heap.push go).objs.size ≤ p.1 := (had p.1 hb).1
      rw [Heap.size_push, List.mem_singleton.mp hp] at q1
      exact absurd q1 (Nat.not_succ_le_self _)
    refine seg_func ?_
    refine ht.run Aw [] _ sizeLine [] s2 _ [] _ _ id id s2 (start N vs) H _ Z hip0 zz ⟨over_func, rfl, rfl, rfl⟩ (Nat.add_zero _) ⟨fun n ys s₀ s' fl Z z hn hs => ?_, fun n ys s₀ e s' Z z hx => ?_⟩ I4 hq
    · cases fl with
      | next =>
        obtain ⟨σ', H', I, q⟩ := hs
        exact seg_end (.ok (.ret .none)) (.inl ⟨.inl rfl, fin z I q⟩)
      | brk => obtain ⟨_, _, _, q⟩ := hs; exact False.elim q
      | cont => obtain ⟨_, _, _, q⟩ := hs; exact False.elim q
      | ret u =>
        obtain ⟨v, σ', H', I, rv, rfl, q⟩ := hs
        obtain rfl : u = Value.none := rv
        exact seg_end (.ok (.ret .none)) (.inl ⟨.inl rfl, fin z I q⟩)
    · obtain ⟨s', H', hs', rfl⟩ := z.fm
      refine seg_wrap ?_
      rw [over_func]
      have hx' : wpAny (model P w) (Aw.deeper (envOfC qual scope s'.heap.objs.size f cdv)) (leaving (envOfC qual scope s'.heap.objs.size f cdv) e) (fun _ s'' => CX P w outer H' s' E e s'' ∧ ∀ p ∈ [(s1.heap.objs.size, go)], s''.heap.get? p.1 = some p.2) (fun _ _ => False) _ := hx
      rw [hs'] at hx'
      refine wpAny_mono hx' (fun _ s'' q => seg_end (.error e) (.inr ⟨e, rfl, ys, H', s₀, z.cs, z.sz, ?_, isg _ (q.2 _ (List.mem_singleton.mpr rfl))⟩)) fun _ s'' q => q.elim
      have ea : s' = headS s₀ s.heap.objs.size := z.at0
      rw [← ea]; exact q.1
  exact main _ _ _ _ rfl rfl rfl fun h => Heap.get?_push_size _ rfl
structure OwnG3 (P : Program) (w : World) (K : PySem.W.Frag) (mg : Str → Option Value) (base : Heap) (x : Str) (k : Nat) (ps : List Str) (sp : SpG3) : Prop where
  ex : ∃ (f : Addr) (fd : FuncData), GFn3 P w K mg base k f fd ps sp ∧ mg x = some (.ref f) ∧ PySem.W.keepIn K (.ref f) = true ∧ Binds K fd ps []
theorem DefAt.ownG3 {x : Str} {st : Stmt} {ps : List Str} {k : Nat} {sp : SpG3} (D : DefAt K mg x st ps) (h : ∀ f fd, Fun K x x st f fd → GFn3 P w K mg base k f fd ps sp) : OwnG3 P w K mg base x k ps sp := by
  obtain ⟨f, fd, F, hm, hb⟩ := D.ex
  exact ⟨f, fd, h f fd F, hm, F.kp, hb⟩
/-- .. by its text -/
theorem gfn3_fun {x qual : Str} {st : Stmt} {f : Addr} {fd : FuncData} {N ps : List Str} {k : Nat} {sp : SpG3} (F : Fun K x qual st f fd) (S : GScope N ps (defScope st)) (len : ∀ vs H Dl Q E, sp vs H Dl Q E → vs.length = ps.length)
    (hbody : ∀ (cdv : Value) (A : Around) (outer : List Env) (s : Shared) (H : Hp) (vs : List V) (Dl : Deal) (Q : List V → Hp → Prop) (E : XK) (pn : List (Addr × Obj)) (Fm : Cx → Prop) (X : Cx), Fm = FmG P w K mg base N qual (defScope st) f cdv A outer E pn s.heap.objs.size → X = gcxOf P w K mg base N qual (defScope st) f cdv A outer s H E pn →
      Fam Fm s.heap.objs.size X → Room k (A.deeper (envOfC qual (defScope st) s.heap.objs.size f cdv)) → sp vs H Dl Q E →
      ∃ t, GQs Fm s.heap.objs.size X Dl (defBody st) t ∧ t { nx := fun ys _ H' => Q ys H', rt := fun ys v H' => v = .non ∧ Q ys H' } [] (start N vs) H) : GFn3 P w K mg base (k + 1) f fd ps sp := by
  obtain ⟨oc, od, kV, doc, pm, an, cdv, ct, osl, rfl, lk, hcd⟩ := F.ex
  exact gfn3_of lk hcd S len fun A outer s H vs Dl Q E pn hb hr hsp => hbody cdv A outer s H vs Dl Q E pn _ _ rfl rfl (fam_g hb) hr hsp
end
end L2

set_option Elab.async false
set_option linter.all false
set_option maxRecDepth 100000
set_option maxHeartbeats 4000000
/-! the consumer: what it may do between the items -/
namespace L2
open PySem PySem.Spec PyProof.Rows GenW
/-- no generator is touched, what is untracked stays -/
structure Soft (X : Cx) (s : Shared) (H : Hp) (s' : Shared) (H' : Hp) : Prop where
  gens : s'.gens = s.gens
  size : s.heap.objs.size ≤ s'.heap.objs.size
  keep : ∀ b o, s.heap.get? b = some o → H b = none → b ∉ frs X.stack → s'.heap.get? b = some o ∧ H' b = none
theorem Soft.refl {X : Cx} {s : Shared} {H : Hp} : Soft X s H s H := ⟨rfl, Nat.le_refl _, fun b o e n _ => ⟨e, n⟩⟩
theorem Soft.trans {X : Cx} {s1 s2 s3 : Shared} {H1 H2 H3 : Hp} (a : Soft X s1 H1 s2 H2) (b : Soft X s2 H2 s3 H3) : Soft X s1 H1 s3 H3 :=
  ⟨b.gens.trans a.gens, Nat.le_trans a.size b.size, fun c o e n hc => let ⟨e2, n2⟩ := a.keep c o e n hc; b.keep c o e2 n2 hc⟩
/-- a target -/
structure PGq (X : Cx) (tg : Expr) (t : TG) : Prop where
  run : ∀ (pins : List (Addr × Obj)) (s : Shared) (σ : St) (H : Hp) (v : V) (u : Value) (Q : St → Hp → Prop), Inv X pins σ H s → RelV v u → t v σ H Q →
    wpAny (model X.prog X.w) X.A (assign tg X.env u) (fun _ s' => ∃ σ' H', Inv X pins σ' H' s' ∧ Soft X s H s' H' ∧ Q σ' H') X.xe s
/-- an expression -/
structure PEq (X : Cx) (e : Expr) (t : TE) : Prop where
  run : ∀ (pins : List (Addr × Obj)) (s : Shared) (σ : St) (H : Hp) (Q : VK), Inv X pins σ H s → t σ H Q → wpAny (model X.prog X.w) X.A (eval e X.env) (fun u s' => ∃ x H', Inv X pins σ H' s' ∧ Soft X s H s' H' ∧ RelV x u ∧ Q x H') X.xe s
/-- a body -/
structure PBq (X : Cx) (body : List Stmt) (t : TS) : Prop where
  run : ∀ (pins : List (Addr × Obj)) (s : Shared) (σ : St) (H : Hp) (D : Ends), Inv X pins σ H s → t D σ H → wpAny (model X.prog X.w) X.A (execs body X.env) (fun f s' => match f with
    | .next => ∃ σ' H', Inv X pins σ' H' s' ∧ Soft X s H s' H' ∧ D.nx σ' H'
    | .cont => ∃ σ' H', Inv X pins σ' H' s' ∧ Soft X s H s' H' ∧ D.ct σ' H'
    | .brk => ∃ σ' H', Inv X pins σ' H' s' ∧ D.bk σ' H'
    | .ret u => ∃ v σ' H', Inv X pins σ' H' s' ∧ RelV v u ∧ D.rt v H') X.xe s
section
variable {X : Cx} {pins : List (Addr × Obj)} {σ : St} {H : Hp} {s : Shared}
/-- a body that never comes to its end -/
theorem pbq_end {body : List Stmt} {t : TS} (h : PSs X body t) : PBq X body (fun D σ H => t { D with nx := fun _ _ => False, ct := fun _ _ => False } σ H) := by
  refine ⟨fun pins s σ H D I q => thn (h.run pins s σ H _ I q) fun f s' hs => ?_⟩
  cases f with
  | next => obtain ⟨_, _, _, z⟩ := hs; exact z.elim
  | cont => obtain ⟨_, _, _, z⟩ := hs; exact z.elim
  | brk => exact hs
  | ret u => exact hs
theorem peq_var {i : Nat} {x : Str} {pos : Pos} (hN : X.N[i]? = some x) (hv : X.env.scope.names.lookup x = some .local) (hd : (x == ("__debug__" : Str)) = false := by decide) : PEq X (.Name x pos) (tVar i) := by
  refine ⟨fun pins s σ H Q I ⟨v, e, h⟩ => ?_⟩
  obtain ⟨m, hn, hl⟩ := I.loc
  obtain ⟨u, r, l⟩ := hl i x v hN e (.inl hv)
  rcases l with ⟨hk, hm⟩ | ⟨hk, _⟩
  · exact wpAny_Name (wpAny_loadName_local I.ok.kind hk hn hm ⟨v, H, I, .refl, r, h⟩) hd
  · have hk' : X.env.scope.names.lookup x = some .cell ∨ X.env.scope.names.lookup x = some .free := hk
    rw [hv] at hk'
    rcases hk' with z | z <;> cases z
theorem pgq_name {i : Nat} {x : Str} {pos : Pos} (hs : X.stack = X.env :: X.outer) (hf : X.env.frame = some X.env.locals) (hN : X.N.Nodup) (hi : X.N[i]? = some x) (hv : X.env.scope.names.lookup x = some .local) : PGq X (.Name x pos) (gName i) := by
  refine ⟨fun pins s σ H v u Q I r h => wpAny_assign_Name ?_⟩
  obtain ⟨m, hn, hl⟩ := id I.loc
  have inF : X.env.locals ∈ frs X.stack := by rw [hs]; exact List.mem_filterMap.mpr ⟨_, List.mem_cons_self, hf⟩
  refine wpAny_storeName_local hv hn (fun h' hn' hb => ?_) (by rw [I.ok.kind]; rfl)
  have ne : ∀ b o, s.heap.get? b = some o → b ≠ X.env.locals → h'.get? b = some o := fun b o e z => (hb.2 b z).trans e
  have old : ∀ b o, X.s_0.heap.get? b = some o → b ≠ X.env.locals := fun b o e => Nat.ne_of_lt (Nat.lt_of_lt_of_le (Heap.lt_size e) I.ok.above)
  have hlen : i < σ.length := by rw [I.len]; exact (List.getElem?_eq_some_iff.mp hi).1
  refine ⟨_, H, ⟨I.ok, I.os, I.bare, ?_, ⟨_, hn', fun j y v' t1 t2 t3 => ?_⟩, fun y c e => ?_, I.free, I.freeC, fun p hp => ?_, ?_, by rw [List.length_set]; exact I.len⟩, ⟨rfl, Nat.le_of_eq hb.1.symm, fun b o e n hF => ⟨ne b o e fun z => hF (by rw [z]; exact inF), n⟩⟩, h⟩
  · refine ⟨fun b o e n a1 a2 => ne b o (I.base.keep b o e n a1 a2) (old b o e), fun b o e n a1 a2 => ?_, I.base.free, fun b o e a2 => ?_, I.base.tups, I.base.frzs, I.base.tbls⟩
    · obtain ⟨sl, q⟩ := I.base.slot b o e n a1 a2
      exact ⟨sl, ne b _ q (old b o e)⟩
    · obtain ⟨o', q⟩ := I.base.there b o e a2
      exact ⟨o', ne b _ q (old b o e)⟩
  · by_cases hj : j = i
    · subst hj
      rw [hi] at t1; cases t1
      rw [List.getElem?_set_self hlen] at t2
      cases t2
      exact ⟨u, r, .inl ⟨hv, if_pos rfl⟩⟩
    · rw [List.getElem?_set_ne (fun z => hj z.symm)] at t2
      obtain ⟨u', r', q⟩ := hl j y v' t1 t2 t3
      have hy : y ≠ x := fun z => hj (nodup_ix hN t1 (by rw [z]; exact hi))
      rcases q with ⟨k, e⟩ | ⟨k, c, e, o, ho, hd⟩
      · exact ⟨u', r', .inl ⟨k, (if_neg hy).trans e⟩⟩
      · exact ⟨u', r', .inr ⟨k, c, e, o, ne c o ho (I.cne y c e), hd⟩⟩
  · obtain ⟨w, o, ho, hd⟩ := I.cell y c e
    exact ⟨w, o, ne c o ho (I.cne y c e), hd⟩
  · obtain ⟨a1, a2, a3, a4, a5⟩ := I.pin p hp
    exact ⟨ne p.1 p.2 a1 a3, a2, a3, a4, a5⟩
  · intro b ob e
    refine (I.hok b ob e).stay (fun c w hc q => ne c w q fun z => ?_) (fun _ q => q) fun _ _ q => q
    subst z
    have hF := I.free
    rcases hc with hc | hc
    · rw [← hc, hF] at e; cases e
    · rw [hF] at hc; cases hc
/-- l.append(x) -/
def tAppq (i j : Nat) : TS := fun D σ H => ∃ l x xs, σ[i]? = some (some (.ref l)) ∧ σ[j]? = some (some x) ∧ H l = some (.lst xs) ∧ xs.length < sizeLine ∧ D.nx σ (upd H l (.lst (xs ++ [x])))
theorem pbq_app {i j : Nat} {l x : Str} {p1 p2 ap pos pos2 : Pos} (hi : X.N[i]? = some l) (hl : X.env.scope.names.lookup l = some .local) (hj : X.N[j]? = some x) (hx : X.env.scope.names.lookup x = some .local)
    (hbase : attributeBase (.Name l p1) "append" X.env (eval (.Name l p1) X.env) = eval (.Name l p1) X.env := by rfl)
    (hfew : ((backTo pos (starEach [.Name x p2] X.env)).all (fun x => !x.1) && (backToKw pos (keywordEach [] X.env)).all (fun x => x.1.isSome) && decide (([Expr.Name x p2] : List Expr).length + ([] : List Keyword).length + (if ([] : List Keyword).isEmpty then 0 else 1) < 30)) = true := by rfl)
    (hline : (ap.endLine == pos.line) = true := by rfl) (htr : backTo pos (starEach [.Name x p2] X.env) = [(false, eval (.Name x p2) X.env)] := by rfl)
    (hin : interactive X.env = false := by rfl) (hsw : swapsWith (.Call (.Attribute (.Name l p1) "append" ap) [.Name x p2] [] pos) none pos2.line X.env = pure false := by rfl)
    (hd : (l == ("__debug__" : Str)) = false := by decide) (hd2 : (x == ("__debug__" : Str)) = false := by decide) :
    PBq X [.Expr (.Call (.Attribute (.Name l p1) "append" ap) [.Name x p2] [] pos) pos2] (tAppq i j) := by
  refine ⟨fun pins s σ H D I ⟨a, y, xs, e1, e2, hH, hz, q⟩ => ?_⟩
  refine wpAny_execs_cons ?_
  refine wpAny_Expr ?_ hin hsw
  refine wpAny_Call_append hbase hfew hline htr (thn ((peq_var hi hl hd).run pins s σ H (fun v H' => v = .ref a ∧ H' = H) I ⟨_, e1, rfl, rfl⟩) fun u s1 ⟨x1, H1, I1, S1, r1, q1, q2⟩ => ?_)
  subst q1 q2
  cases r1
  obtain ⟨z, its, n, r, hl', e⟩ := I1.lstM hH
  refine ⟨a, its.toArray, rfl, ⟨_, n, e, rfl, rfl, rfl⟩, thn ((peq_var hj hx hd2).run pins s1 σ H1 (fun v H' => v = y ∧ H' = H1) I1 ⟨_, e2, rfl, rfl⟩) fun u2 s2 ⟨x2, H2, I2, S2, r2, q1, q2⟩ => ?_⟩
  subst q1 q2
  obtain ⟨z, its, n, r, hl', e⟩ := I2.lstM hH
  refine call_meets F.slot_list_append ⟨_, e, rfl⟩ F.entry_list_append (F.args_list_append_2 _ _) (PySem.list_append a its.toArray n u2 (by rw [List.size_toArray]; omega)) ⟨e, ?_⟩
  refine wpAny_execs_nil ⟨σ, _, I2.lset (its' := its ++ [u2]) hH e (by simp) (r.append (.cons r2 .nil)) (by rw [List.length_append, List.length_singleton]; omega), (S1.trans S2).trans ⟨rfl, Nat.le_of_eq (Heap.size_update _ _ _).symm, fun b o eb nb _ => ?_⟩, q⟩
  have hb : b ≠ a := fun z => by rw [z, hH] at nb; cases nb
  exact ⟨(Heap.get?_update_other _ _ (Ne.symm hb)).trans eb, by rw [upd_ne hb]; exact nb⟩
end
end L2

set_option Elab.async false
set_option linter.all false
set_option maxRecDepth 100000
set_option maxHeartbeats 4000000
/-! for x in f(..): over a generator def's call -/
namespace L2
open PySem PySem.Spec PyProof.Rows GenW
/-- what stands in the consumer's frame lies below n₀ -/
structure LowX (X : Cx) (pins : List (Addr × Obj)) (n₀ : Nat) : Prop where
  s0 : X.s_0.heap.objs.size ≤ n₀
  loc : X.env.locals < n₀
  cell : ∀ x c, X.env.cells.lookup x = some c → c < n₀
  pin : ∀ p ∈ X.pn ++ pins, p.1 < n₀
section
variable {X : Cx} {pins : List (Addr × Obj)} {σ : St} {H H1 : Hp} {s s1 : Shared} {n₀ : Nat}
theorem Inv.low (I : Inv X pins σ H s) : LowX X pins s.heap.objs.size :=
  ⟨I.sz, I.lt, fun x c e => let ⟨_, _, ho, _⟩ := I.cell x c e; Heap.lt_size ho, fun p hp => Heap.lt_size (I.pin p hp).1⟩
theorem Inv.gensTo (I : Inv X pins σ H s) {G : Array GenState} (h : AllBare G) : Inv X pins σ H { s with gens := G } :=
  I.call' (ch := []) rfl Un.refl I.hok h fun _ z => nomatch z
/-- the places from n₀ on -/
def upFrom (n₀ : Nat) (h : Heap) : List Addr := (List.range h.objs.size).filter fun b => decide (n₀ ≤ b)
theorem upFrom_not {h : Heap} {b : Addr} {o : Obj} (e : h.get? b = some o) (hb : b ∉ upFrom n₀ h) : b < n₀ := by
  refine Nat.lt_of_not_le fun z => hb (List.mem_filter.mpr ⟨List.mem_range.mpr (Heap.lt_size e), decide_eq_true z⟩)
theorem LowX.up (L : LowX X pins n₀) {h : Heap} : ∀ b ∈ upFrom n₀ h, (b ∈ X.ex ∨ X.s_0.heap.objs.size ≤ b) ∧ b ≠ X.env.locals ∧ (∀ x c, X.env.cells.lookup x = some c → c ≠ b) ∧ ∀ p ∈ X.pn ++ pins, p.1 ≠ b := fun b hb => by
  have hn : n₀ ≤ b := of_decide_eq_true (List.mem_filter.mp hb).2
  refine ⟨.inr (Nat.le_trans L.s0 hn), fun z => ?_, fun x c e z => ?_, fun p hp z => ?_⟩
  · rw [z] at hn; exact absurd (Nat.lt_of_lt_of_le L.loc hn) (Nat.lt_irrefl _)
  · rw [← z] at hn; exact absurd (Nat.lt_of_lt_of_le (L.cell x c e) hn) (Nat.lt_irrefl _)
  · rw [← z] at hn; exact absurd (Nat.lt_of_lt_of_le (L.pin p hp) hn) (Nat.lt_irrefl _)
/-- behind a stretch of the generator -/
theorem Inv.stretch (I : Inv X pins σ H s) (L : LowX X pins n₀) (u : Un (frs X.stack) [] H H1 (headH s.heap n₀) s1.heap) (hok : HOk X.prog X.w H1 s1.heap) (os : s1.os = s.os) (ag : AllBare s1.gens) : Inv X pins σ H1 s1 := by
  have hh : ∀ b o, s.heap.get? b = some o → b ∉ upFrom n₀ s.heap → (headH s.heap n₀).get? b = some o := fun b o e hb => (headH_get (upFrom_not e hb)).trans e
  exact I.call' (ch := upFrom n₀ s.heap) os ⟨fun b o e n hb hc => u.keep b o (hh b o e hc) n hb (fun z => nomatch z), fun b o e n hb hc => u.slot b o (hh b o e hc) n hb (fun z => nomatch z), fun b o e n hc => u.free b o (hh b o e hc) n (fun z => nomatch z),
    fun b o e hc => u.there b o (hh b o e hc) (fun z => nomatch z), u.tups, u.frzs, u.tbls⟩ hok ag L.up
/-- an exception that the generator let out -/
theorem XE.of_stretch {W : WX} {E : XK} (I : Inv X pins σ H s) (L : LowX X pins n₀) (hn : n₀ ≤ s.heap.objs.size) (hW : ∀ cls d H', E cls d H' → W cls d σ H') {u : Value} {G : Array GenState} (c : CX X.prog X.w X.stack H (headS s n₀) E u s1) (hG : AllBare G) : XE X W u { s1 with gens := G } := by
  obtain ⟨a, B, H', cls, d, rfl, fl, hok, ub, na, os, ag, hE⟩ := c
  obtain ⟨R, g1, g2⟩ := restrict s1.heap fun b => (B.get? b).isSome || decide (b ∈ frs X.stack)
  have st : B.StaysIn s1.heap := fl.1
  have gB : ∀ b o, B.get? b = some o → R.get? b = some o := fun b o e => (g1 b (by rw [e]; rfl)).trans (st b o e)
  have gF : ∀ b, b ∈ frs X.stack → R.get? b = s1.heap.get? b := fun b hb => g1 b (by simp [hb])
  have og : ∀ b o, R.get? b = some o → s1.heap.get? b = some o ∧ ((B.get? b).isSome = true ∨ b ∈ frs X.stack) := fun b o e => by
    cases q : ((B.get? b).isSome || decide (b ∈ frs X.stack)) with
    | false => rw [g2 b q] at e; cases e
    | true => exact ⟨by rw [← g1 b q]; exact e, by simpa [Bool.or_eq_true] using q⟩
  have hh : ∀ b o, s.heap.get? b = some o → b ∉ upFrom n₀ s.heap → (headS s n₀).heap.get? b = some o := fun b o e hb => (headH_get (upFrom_not e hb)).trans e
  refine ⟨a, B, { s with heap := R, gens := G, drawn := s1.drawn, toks := s1.toks }, pins, σ, H', cls, d, rfl, ?_, fun b o e hb => ?_, Heap.UpToSlots.of_keeps fun b o e => (og b o e).1, .inr (.inl fl), na, os, hG, hW _ _ _ hE⟩
  · refine I.call (ch := upFrom n₀ s.heap) ⟨fun b o e n hb hc => gB b o (ub.keep b o (hh b o e hc) n hb), fun b o e n hb hc => ?_, fun b o e n hc => ub.free b o (hh b o e hc) n, fun b o e hc => ?_, ub.tups, ub.frzs, ub.tbls⟩ (hok.kept gB) hG L.up
    · obtain ⟨sl, q⟩ := ub.slot b o (hh b o e hc) hb
      exact ⟨sl, by rw [gF b hb]; exact q⟩
    · by_cases hb : b ∈ frs X.stack
      · obtain ⟨sl, q⟩ := ub.slot b o (hh b o e hc) hb
        exact ⟨_, by rw [gF b hb]; exact q⟩
      · obtain ⟨o', q⟩ := ub.there b o (hh b o e hc) hb
        exact ⟨o', gB b o' q⟩
  · obtain ⟨e', h⟩ := og b o e
    rcases h with h | h
    · obtain ⟨o', q⟩ := Option.isSome_iff_exists.mp h
      rw [q]
      exact (st b o' q).symm.trans e'
    · exact absurd h hb
end
section
variable {X : Cx} {k : Nat} {f : Addr} {fd : FuncData} {ps : List Str} {sp : SpG3} {x : Str} {p pos pos2 : Pos} {e : Expr} {es : List Expr} {ta : TA} {tg : Expr} {gt : TG} {body : List Stmt} {tb : TS} {W : WX}
/-- Cσ: the consumer's slots, by what is out; kp: what a turn does to the heap. K: X.K, named -/
def tForG (K : PySem.W.Frag) (sp : SpG3) (ta : TA) (gt : TG) (tb : TS) (W : WX) : TS := fun D σ H => ta σ H fun vs H1 => ∃ (Cσ : List V → St → Prop) (kp : List V → V → Hp → Hp → Prop), Cσ [] σ ∧ ∀ cs,
  sp vs H1 ⟨cs, fun ys x H2 => ∀ σ', Cσ ys σ' → gt x σ' H2 fun σ2 H3 => tb { D with nx := fun σ3 H4 => Cσ (ys ++ [x]) σ3 ∧ kp ys x H2 H4, ct := fun σ3 H4 => Cσ (ys ++ [x]) σ3 ∧ kp ys x H2 H4, bk := D.nx } σ2 H3, kp, []⟩
    (fun ys H' => ∀ σ', Cσ ys σ' → D.nx σ' H') (fun cls d H' => PySem.W.subIn K cls (.type "StopIteration") = some false ∧ ∀ ys σ', Cσ ys σ' → W cls d σ' H')
theorem ps_forG {K : PySem.W.Frag} (hK : X.K = K) (O : OwnG3 X.prog X.w X.K X.mg X.base x k ps sp) (tk : Takes X W) (hp : PassesOwn (model X.prog X.w) X.A X.env X.xe) (room : Room (k + 1) X.A) (hcm : X.calm = true) (ha : PA X (e :: es) ta) (hg : PGq X tg gt) (hb : PBq X body tb) (hgl : Gl X x := by rfl)
    (hdb : (x == ("__debug__" : Str)) = false := by decide) (he : starEach (e :: es) X.env = (false, eval e X.env) :: starEach es X.env := by rfl) (hpl : (backTo pos2 (starEach es X.env)).any (·.1) = false := by rfl)
    (hs : ∀ y, foldedSetIterable (.Call (.Name x p) (e :: es) [] pos2) X.env y = pure y := by intro _; rfl) : PS X (.For tg (.Call (.Name x p) (e :: es) [] pos2) body [] pos) (tForG K sp ta gt tb W) := by
  subst hK
  obtain ⟨f, fd, G, hm, hk, hbd⟩ := O.ex
  refine ⟨fun pins s σ H D I h => ?_⟩
  refine wpAny_For (wpAny_Call_Name_kw (ld_glob I hgl hm (PySem.W.callWith_K (h₀ := X.base) I.ok.mod.kin hk (thn (ha.run pos2 pins s σ H _ I h) fun us s1 ⟨vs, H1, I1, r, Cσ, kp, c0, q⟩ => ⟨I1.kIn, ?_⟩) he hpl) hdb)) hs
  have q := q fun ys H' s' => ∃ σ', Inv X pins σ' H' s' ∧ Cσ ys σ'
  revert q
  generalize hDl : (⟨fun ys H' s' => ∃ σ', Inv X pins σ' H' s' ∧ Cσ ys σ', _, kp, []⟩ : Deal) = Dl
  intro q
  have hl2 : us.length = ps.length := by rw [← r.length]; exact G.len _ _ _ _ _ q
  have hbs := hbd s1 us I1.kIn (by rw [List.append_nil]; exact hl2)
  rw [List.append_nil] at hbs
  refine wpAny_call (codeAny_mono (G.run X.A X.stack s1 H1 ⟨us, []⟩ us vs (fun Dl' Q' => Dl' = Dl ∧ Q' = fun ys H' => ∀ σ', Cσ ys σ' → D.nx σ' H') _ ⟨_, _, rfl, rfl⟩ (room.mono (Nat.le_succ k)) I1.env0 hbs r (fun Dl' Q' z => by obtain ⟨rfl, rfl⟩ := z; exact q)) fun r s2 hq => ?_)
  cases r with
  | error _ => exact hq.elim
  | ok fl =>
  cases fl with
  | next => exact hq.elim
  | brk => exact hq.elim
  | cont => exact hq.elim
  | ret u =>
  obtain ⟨a, g, c, go, rfl, ha1, ha2, hgo, isg, hgs, hos, hba, hkp, wake⟩ := hq
  have I2 : Inv X pins σ H1 s2 := I1.call' (ch := []) hos (Un.kept hkp) (I1.hok.kept hkp) hba fun _ z => nomatch z
  refine wpAny_pyIter_gen (isg _ hgo) ?_
  have L : LowX X pins s1.heap.objs.size := I1.low
  have hfrF : ∀ b ∈ frs X.stack, b < s1.heap.objs.size := fun b hb => by
    obtain ⟨_, o, ho, _⟩ := I1.stack.mem hb
    exact Heap.lt_size ho
  have hgl2 : g < s2.gens.size := (Array.getElem?_eq_some_iff.mp hgs).1
  have mkWk : ∀ {pins' σ' H' s'}, Inv X pins' σ' H' s' → s1.heap.objs.size ≤ s'.heap.objs.size → Wk X.prog X.w X.base X.stack s1.heap.objs.size [] H' s' := fun I' hz =>
    ⟨I'.bare, I'.bs, I'.stack, fun b hb => ⟨hfrF b hb, I'.stkFree b hb⟩, I'.hok, hz, fun _ z => nomatch z⟩
  refine codeAny_forLoop_any (fun n s' => ∃ gs σ' H', s'.gens[g]? = some gs ∧ gs.Goes (model X.prog X.w) X.A.in1 (End3 X.prog X.w X.stack s1.heap.objs.size Dl (fun ys H' => ∀ σ', Cσ ys σ' → D.nx σ' H') (fun cls d H' => PySem.W.subIn X.K cls (.type "StopIteration") = some false ∧ ∀ ys σ', Cσ ys σ' → W cls d σ' H') a g)
    (GY3 X.prog X.w X.base X.stack [(a, go)] s1.heap.objs.size Dl) n (.send .none) (s'.setGen g .running) ∧ s'.heap.get? a = some go ∧ Inv X pins σ' H' s') ?_ sizeLine ⟨_, σ, H1, hgs, ⟨rfl, ?_⟩, hgo, I2⟩
  · rintro n s3 ⟨gs, σ3, H3, hgs3, hgoes, hgo3, I3⟩
    have hgl3 : g < s3.gens.size := (Array.getElem?_eq_some_iff.mp hgs3).1
    have hcd : ∃ nm qn, go.cls = .type "generator" ∧ go.data = .fields #[.int g 0, nm, qn] := by
      obtain ⟨o, nm, qn, ho, hc, hd, _⟩ := isg _ hgo
      rw [hgo] at ho; cases ho
      exact ⟨nm, qn, hc, hd⟩
    obtain ⟨nm, qn, hgc, hgd⟩ := hcd
    refine wpAny_passesOwn hp (wpAny_gsz (n := g + 1) hgl3 (next_genG (A := X.A) (I3.ok.hd hcm) I3.nolimit room.depth (isg _ hgo3) hgs3 hgoes (fun v s4 gs' hbare hv => ?_) (fun s4 hf h' hk' => ?_) fun er s4 her => ?_))
    · obtain ⟨ys, x1, HE, H4, mine, hn, rv, hcs, hz, un, os4, ag4, hok4, hpn, hz4, _, yd, hmine, _, wakes⟩ := hv
      intro hsz
      subst hDl
      obtain ⟨σE, IE, cE⟩ := hcs
      have hsz4 : g < s4.gens.size := by
        have z : (s4.setGen g gs').gens.size = s4.gens.size := setGen_size _ _ _
        have z2 : g + 1 ≤ (s4.setGen g gs').gens.size := hsz
        omega
      have I4 : Inv X pins σE H4 (s4.setGen g gs') := (IE.stretch L un hok4 os4 ag4).gensTo (allBare_setGen ag4 hbare)
      have hgo4 : s4.heap.get? a = some go := (hpn _ (List.mem_singleton.mpr rfl)).1
      refine go_of (s := s4.setGen g gs') hgo4 hgc hgd (by decide) ?_
      refine wpAny_passesOwn hp (thn (hg.run pins _ σE H4 x1 v _ I4 rv (yd σE cE)) fun _ s5 ⟨σ5, H5, I5, S5, q5⟩ => ?_)
      refine wpAny_passesOwn hp (thn (hb.run pins s5 σ5 H5 _ I5 q5) fun fl s6 q6 => ?_)
      have on : ∀ {σ6 : St} {H6 : Hp}, Inv X pins σ6 H6 s6 → Soft X s5 H5 s6 H6 → Cσ (ys ++ [x1]) σ6 ∧ kp ys x1 H4 H6 → ∃ m, m < n ∧ ∃ gs σ' H', s6.gens[g]? = some gs ∧ gs.Goes _ X.A.in1 _ _ m (.send .none) (s6.setGen g .running) ∧ s6.heap.get? a = some go ∧ Inv X pins σ' H' s6 := fun {σ6 H6} I6 S6 n6 => by
        have S := S5.trans S6
        have hgs6 : s6.gens[g]? = some gs' := by rw [S.gens]; exact setGen_at hsz4
        have I6r : Inv X pins σ6 H6 (s6.setGen g .running) := I6.gensTo (allBare_setGen I6.bare rfl)
        have wk := wakes H6 (s6.setGen g .running) (mkWk I6r (Nat.le_trans hz4 S.size)) ⟨σ6, I6r, n6.1⟩ (fun b mb o e => S.keep b o e (hmine b mb).1 (hmine b mb).2.1) n6.2
        have hna : H4 a = none := (hpn _ (List.mem_singleton.mpr rfl)).2
        cases n with
        | zero => exact False.elim wk
        | succ m => exact ⟨m, Nat.lt_succ_self m, gs', σ6, H6, hgs6, wk, (S.keep a go hgo4 hna (fun z => absurd (hfrF a z) (Nat.not_lt.mpr ha1))).1, I6⟩
      cases fl with
      | next => obtain ⟨σ6, H6, I6, S6, n6⟩ := q6; exact on I6 S6 n6
      | cont => obtain ⟨σ6, H6, I6, S6, n6⟩ := q6; exact on I6 S6 n6
      | brk => exact q6
      | ret v => exact q6
    · obtain ⟨ys, HE, H4, hcs, hz, os4, ag4, un, hok4, _, hQ⟩ := hf
      intro _
      subst hDl
      obtain ⟨σE, IE, cE⟩ := hcs
      have I4 : Inv X pins σE H4 (s4.setGen g .finished) := (IE.stretch L un hok4 os4 ag4).gensTo (allBare_setGen ag4 rfl)
      have I5 : Inv X pins σE H4 { s4.setGen g .finished with heap := h' } := I4.call' (ch := []) rfl (Un.kept hk') (I4.hok.kept hk') I4.bare fun _ z => nomatch z
      exact wpAny_passesOwn hp (wpAny_execs_nil ⟨σE, H4, I5, hQ σE cE⟩)
    · obtain ⟨ys, HE, sE, hcs, hz, cx, hge⟩ := her
      subst hDl
      obtain ⟨σE, IE, cE⟩ := hcs
      have ag4 : AllBare s4.gens := by obtain ⟨_, _, _, _, _, _, _, _, _, _, _, ag, _⟩ := cx; exact ag
      refine ⟨hge, notStop_of (E := fun cls d H' => PySem.W.subIn X.K cls (.type "StopIteration") = some false ∧ ∀ ys σ', Cσ ys σ' → W cls d σ' H') (fun _ _ _ z => z.1) (IE.ok.mod.kin.keeps fun b o eb => ?_) cx, fun _ => tk _ _ (XE.of_stretch IE L hz (fun _ _ _ z => z.2 ys σE cE) cx (allBare_setGen ag4 rfl))⟩
      obtain ⟨a', B, H', cls, d, z1, fl, z2, ub, _⟩ := cx
      have hb0 := IE.bs b o eb
      refine fl.1 b o (ub.keep b o ((headH_get ?_).trans hb0.1) hb0.2 fun hm => ?_)
      · exact Nat.lt_of_lt_of_le (Heap.lt_size (I1.ok.bs b o eb).1) L.s0
      · have := (IE.stack.mem hm).1
        rw [eb] at this; cases this
  · subst hDl
    exact wake X.A.in1 (s2.setGen g .running) _ _ ⟨rfl, rfl⟩ room.in1 I1.ok.frames (fun _ _ e => e) hos (allBare_setGen hba rfl) (fun _ z => nomatch z) ⟨σ, I2.gensTo (allBare_setGen hba rfl), c0⟩
end
end L2

set_option Elab.async false
set_option linter.all false
set_option maxRecDepth 100000
set_option maxHeartbeats 4000000
/-! enumerate(xs, start=k) over a list -/
namespace L2
open PySem PySem.Spec PyProof.Rows
section
variable {M : Model} {A : Around} {E : Value → Shared → Prop} {s : Shared} {env : Env}
theorem callWith_typeKw {pos : Pos} {T : String} {e : Expr} {rest : List Expr} {kws : List Keyword} {Q : Value → Shared → Prop}
    (h : wpAny M A (spliced (backTo pos (starEach (e :: rest) env))) (fun vs s1 => wpAny M A (evalAll ((backToKw pos (keywordEach kws env)).map (·.2))) (fun ks s2 => wpAny M A (call (.type T) vs (((backToKw pos (keywordEach kws env)).filterMap (·.1)).zip ks)) Q E s2) E s1) E s)
    (he : backTo pos (starEach (e :: rest) env) = (false, eval e env) :: backTo pos (starEach rest env)) (hpl : (backTo pos (starEach (e :: rest) env)).any (·.1) = false)
    (hall : (backToKw pos (keywordEach kws env)).all (·.1.isSome) = true) (hno : (backToKw pos (keywordEach kws env)).any (·.1.isNone) = false) :
    wpAny M A (callWith pos (.type T) [] (backTo pos (starEach (e :: rest) env)) (backToKw pos (keywordEach kws env))) Q E s := by
  have h2 : wpAny M A (evalArgs (.type T) true (backTo pos (starEach (e :: rest) env)) (backToKw pos (keywordEach kws env))) (fun a s1 => wpAny M A (call (.type T) ([] ++ a.pos) a.kw) Q E s1) E s := by
    rw [he] at h ⊢
    exact PyProof.Rows.evalArgs_kwB hall h
  unfold callWith
  refine wpAny_bind (wpAny_holding (wpAny_mono h2 (fun a s1 h1 => wpAny_bind (wpAny_standAt ?_)) fun _ _ x => x))
  simp only [hpl, hno, Bool.or_false]
  refine wpAny_bind (wpAny_pure ?_)
  exact wpAny_bind (wpAny_mono h1 (fun r s2 hr => wpAny_bind (wpAny_holding (wpAny_point (wpAny_pure hr)))) fun _ _ x => x)
end
/-- the list at a, each item in a new pair with its number from k on -/
def Itef (K : PySem.W.Frag) (a : Addr) (k : Int) : It :=
  ⟨fun i H => ∃ xs : List V, SqL K H a xs ∧ i < xs.length, fun i H v H' => ∃ T x, v = .ref T ∧ H T = none ∧ H' = upd H T (.tup [.int (k + (i : Nat)), x]) ∧ ∀ xs, SqL K H a xs → xs[i]? = some x, fun i H => ∃ xs : List V, SqL K H a xs ∧ xs.length = i⟩
theorem turn_enF {P : Program} {w : World} {K : PySem.W.Frag} {elts : List Expr} {kk : Nat} {tpos : Pos} (k : Int) (a e it : Addr) (hea : e ≠ a) (hia : a ≠ it) :
    Turn P w K (.Tuple elts kk tpos) (Itef K a k) [e, it] e (fun i h => (∃ old, IsEnum h e it (k + ((i : Nat) : Int)) old) ∧ h.IsListIter it a i ∧ e ≠ it) where
  mem := List.mem_cons_self
  obj := by
    intro i h ⟨⟨old, he⟩, ⟨o, ho, _, hd⟩, _⟩ b hb
    rcases List.mem_cons.mp hb with rfl | z
    · exact ⟨_, he, by intro v q; cases q⟩
    · cases List.mem_singleton.mp z
      exact ⟨o, ho, by intro v q; rw [hd] at q; cases q⟩
  keep := fun i h h' ⟨⟨old, he⟩, hi, hne⟩ st => ⟨⟨old, st e List.mem_cons_self _ he⟩, hi.at fun o q => st it (List.mem_cons_of_mem _ List.mem_cons_self) o q, hne⟩
  item := by
    intro X hP hw hK hc i pins s σ H E I hf ⟨⟨old, he⟩, hit, hne⟩ ⟨xs, hq, hx⟩
    subst hP hw hK
    obtain ⟨its, rv, p, hz⟩ := I.list hq
    have hl := rv.length
    have elt := Heap.lt_size he
    have ilt : it < s.heap.objs.size := let ⟨_, q, _⟩ := hit; Heap.lt_size q
    have D := Draws.list (prog := X.prog) (w := X.w) (A := X.A.in1) (I.ok.hd hc) it a hia its.toArray
    refine wpAny_pyNext_enum_itemC D he (i := i) ⟨hit, p.isList⟩ (by rw [List.size_toArray]; omega) hne (by simp [hne, hea]) fun u h' tk hP ho hst' hT hsz hk => ?_
    have hu : its[i]? = some u := by simpa using hP
    have hxx : xs[i]? = some xs[i] := List.getElem?_eq_getElem hx
    obtain ⟨u', hu', ru'⟩ := rv.get hxx
    obtain rfl : u' = u := Option.some.inj (hu'.symm.trans hu)
    refine ⟨_, rfl, wpAny_letOwnedTupleGo_enum (s := { s with heap := h', toks := tk + 1 }) ho fun h2 he2 sb => ?_⟩
    have hT2 := (sb.2 _ (Nat.ne_of_gt elt)).trans hT
    have I1 : Inv X pins σ (upd H s.heap.objs.size (.tup [.int (k + (i : Nat)), xs[i]])) { s with heap := h2, toks := tk + 1 } :=
      I.turnedNew (ch := [e, it]) (fun b ob hb q => (sb.2 b fun z => hb (by rw [z]; exact List.mem_cons_self)).trans (hk b ob (fun z => hb (by rw [z]; exact List.mem_cons_self)) (fun z => hb (by rw [z]; exact List.mem_cons_of_mem _ List.mem_cons_self)) q)) hf (Nat.le_refl _)
        ⟨by show 2 ≤ sizeLine; decide, [.int (k + (i : Nat)) tk, u'], .cons ⟨_, rfl⟩ (.cons ru' .nil), ⟨_, hT2, rfl, _, rfl⟩⟩
    refine ⟨.ref s.heap.objs.size, _, I1, rfl, ⟨_, xs[i], rfl, I.hok.fresh (Nat.le_refl _), rfl, fun ys hy => by rw [I.list_inj hy hq]; exact hxx⟩, ⟨⟨u', ?_⟩, hst'.1.at fun o q => (sb.2 it (Ne.symm hne)).trans q, hne⟩, fun b hb => ?_⟩
    · rw [show k + ((i + 1 : Nat) : Int) = k + (i : Int) + 1 by omega]; exact he2
    · have hb' : b < s.heap.objs.size := (List.mem_cons.mp hb).elim (fun z => z ▸ elt) fun z => List.mem_singleton.mp z ▸ ilt
      rw [upd_ne (Nat.ne_of_lt hb')]; exact (hf b hb).1
  done := by
    intro X hP hw hK hc i pins s σ H E I hf ⟨⟨old, he⟩, hit, hne⟩ ⟨xs, hq, hx⟩
    subst hP hw hK
    obtain ⟨its, rv, p, hz⟩ := I.list hq
    have hl := rv.length
    obtain ⟨f0, f1, f2, f3, f4, f5⟩ := hf it (List.mem_cons_of_mem _ List.mem_cons_self)
    have D := Draws.list (prog := X.prog) (w := X.w) (A := X.A.in1) (I.ok.hd hc) it a hia its.toArray
    have ei : i = its.toArray.size := by rw [List.size_toArray]; omega
    exact wpAny_pyNext_enum_endD D he (by rw [← ei]; exact ⟨hit, p.isList⟩) fun h' eb => ⟨rfl, I.turned (t' := s.toks) (fun b o hb q => eb b o hb q) f0 f1 f3 f4 f5⟩
  self := fun A i s Q E ⟨⟨_, he⟩, _⟩ h => wpAny_pyIter_enum he h
def iEnF (K : PySem.W.Frag) (k : Int) (ta : TA) : TI := fun σ H R => ta σ H fun vs H1 => ∃ a xs, vs = [.ref a] ∧ SqL K H1 a xs ∧ R (Itef K a k) H1
theorem pi_enF {X : Cx} {K : PySem.W.Frag} (hK : X.K = K) {e : Expr} {ta : TA} {p pos tpos p2 p3 : Pos} {elts : List Expr} {kk j : Nat} {k : Int} (h0 : -(2 ^ 63) ≤ k) (h1 : k < 2 ^ 63) (hg : Gl X "enumerate") (hm : X.mg "enumerate" = none) (ha : PA X [e] ta)
    (he : backTo pos (starEach [e] X.env) = (false, eval e X.env) :: backTo pos (starEach [] X.env) := by rfl) (hpl : (backTo pos (starEach [e] X.env)).any (·.1) = false := by rfl) (hall : (backToKw pos (keywordEach [⟨some "start", .Constant (.int k) j p2, p3⟩] X.env)).all (·.1.isSome) = true := by rfl)
    (hno : (backToKw pos (keywordEach [⟨some "start", .Constant (.int k) j p2, p3⟩] X.env)).any (·.1.isNone) = false := by rfl) (hks : (backToKw pos (keywordEach [⟨some "start", .Constant (.int k) j p2, p3⟩] X.env)).filterMap (·.1) = [Str.ofString "start"] := by rfl) :
    PI X (.Tuple elts kk tpos) (.Call (.Name "enumerate" p) [e] [⟨some "start", .Constant (.int k) j p2, p3⟩] pos) (iEnF K k ta) := by
  subst hK
  refine ⟨fun pins s σ H R I h => wpAny_Call_Name_kw (ld_blt I hg hm boot_enumerate (callWith_typeKw (thn (ha.run pos pins s σ H _ I h) fun us s1 ⟨vs, H1, I1, r1, a, xs, ex, hq, q⟩ => ?_) he hpl hall hno))⟩
  subst ex
  obtain rfl := Vals.ref1 r1
  refine PyProof.Rows.kws_cons (thn ((pe_int (X := X) (i := k) (j := j) (pos := p2)).run pins s1 σ H1 (fun v H' => v = .int k ∧ H' = H1) I1 ⟨rfl, rfl⟩) fun v s2 ⟨x, H2, I2, rv, e1, e2⟩ => PyProof.Rows.kws_nil ?_)
  subst e1 e2
  obtain ⟨t, rfl⟩ := rv
  obtain ⟨its, rvs, p', hz⟩ := I2.list hq
  have hlt : a < s2.heap.objs.size := let ⟨_, q, _⟩ := p'.isList; Heap.lt_size q
  rw [hks]
  refine enum_begins_start (begins_list a its.toArray) p'.isList h0 h1 fun h' he hit hsz hk => wpAny_pyIter_enum he ?_
  have I3 : Inv X pins σ H2 { s2 with heap := h' } := I2.kept (t' := s2.toks) hk
  have two : ∀ b, b ∈ [s2.heap.objs.size + 1, s2.heap.objs.size] → s2.heap.objs.size ≤ b := fun b hb => (List.mem_cons.mp hb).elim (fun z => by rw [z]; exact Nat.le_succ _) fun z => by rw [List.mem_singleton.mp z]; exact Nat.le_refl _
  exact ⟨s2.heap.objs.size + 1, [s2.heap.objs.size + 1, s2.heap.objs.size], _, _, H2, rfl, I3, turn_enF k a (s2.heap.objs.size + 1) s2.heap.objs.size (Nat.ne_of_gt (Nat.lt_succ_of_lt hlt)) (Nat.ne_of_lt hlt), ⟨⟨.none, by rw [show k + ((0 : Nat) : Int) = k by omega]; exact he⟩, ⟨_, hit, rfl, rfl⟩, Nat.succ_ne_self _⟩, fun b hb => I2.fpOk (two b hb) (I2.hok.fresh (two b hb)), q⟩
theorem walk_enF {K : PySem.W.Frag} {a : Addr} {k : Int} {xs : List V} : Walk (Itef K a k) xs.length (fun H => SqL K H a xs) (YPair (fun i => some (.int (k + (i : Nat)))) (fun i => xs[i]?)) := by
  refine ⟨fun i _ hi q => ⟨xs, q, hi⟩, fun _ q => ⟨xs, q, rfl⟩, fun i H v H' _ q ⟨T, x, e1, e2, e3, e4⟩ => ⟨T, .int (k + (i : Nat)), x, e1, e2, e3, rfl, e4 xs q⟩⟩
end L2

set_option Elab.async false
set_option linter.all false
set_option maxRecDepth 100000
set_option maxHeartbeats 4000000
/-! one reading for both kinds of promise: list(f(..)) wants a deal that keeps the heap as it is -/
namespace L2
open PySem PySem.Spec PyProof.Rows GenW
/-- a deal with a consumer that leaves the heap as it is -/
def Deal.Still (Dl : Deal) : Prop := ∀ ys x H, Dl.yd ys x H → Dl.kp ys x H H
section
variable {X : Cx} {Dl : Deal} {e : Expr} {yp pos : Pos} {te : TE}
theorem gs_yield3 (hD : Dl.Still) (he : PE X e te) (hco : X.env.scope.isCoroutine = false := by rfl) (hi : interactive X.env = false := by rfl) : GS X (.Expr (.Yield (some e) yp) pos) (tYield3 Dl te) := by
  have hw : PE X e (fun σ H Q => ∃ Q0, te σ H Q0 ∧ ∀ x H1, Q0 x H1 → Q x H1) := ⟨fun pins s σ H Q I ⟨Q0, h0, hq⟩ => thn (he.run pins s σ H Q0 I h0) fun u s' ⟨x, H', I', r, q⟩ => ⟨x, H', I', r, hq x H' q⟩⟩
  refine ⟨fun A S ip R n ys s₀ c fs K J gd lv s σ H D g hn k hI ht => (gs_yield hw hco hi).run A S ip R n ys s₀ c fs K J gd lv s σ H D g hn k hI ⟨ht.1, _, ht.2, fun x H1 q => q.2 H1 (hD ys x H1 q.1)⟩⟩
end
end L2

set_option Elab.async false
set_option linter.all false
set_option maxRecDepth 100000
set_option maxHeartbeats 4000000
/-! rules with K named, for what stands within a generator whose contexts change -/
namespace L2
open PySem PySem.Spec PyProof.Rows GenW
section
variable {X : Cx} {K : PySem.W.Frag} {o e : Expr} {es : List Expr} {to te : TE} {t : TA} {name : Str} {apos cpos pos p : Pos} {T id : String} {r : V → List V → Hp → VK → Prop}
theorem pe_bm0N (hK : X.K = K) (pa : PlainAttrs T) (slot : Slot T name id) (hty : typeOf (.builtin id) = pure (.type "method_descriptor")) (hm : MtR X id r) (ho : PE X o to) (hbase : attributeBase o name X.env (eval o X.env) = eval o X.env := by rfl)
    (hline : (apos.endLine == cpos.line) = true := by rfl) : PE X (.Call (.Attribute o name apos) [] [] cpos) (tBM0 K T r to) := by subst hK; exact pe_bm0 pa slot hty hm ho hbase hline
theorem pe_bmN (hK : X.K = K) (pa : PlainAttrs T) (slot : Slot T name id) (hty : typeOf (.builtin id) = pure (.type "method_descriptor")) (hm : MtR X id r) (ho : PE X o to) (ha : PA X (e :: es) t) (hbase : attributeBase o name X.env (eval o X.env) = eval o X.env := by rfl)
    (hfew : ((backTo cpos (starEach (e :: es) X.env)).all (fun x => !x.1) && (backToKw cpos (keywordEach [] X.env)).all (fun x => x.1.isSome) && decide ((e :: es).length + ([] : List Keyword).length + (if ([] : List Keyword).isEmpty then 0 else 1) < 30)) = true := by rfl)
    (hline : (apos.endLine == cpos.line) = true := by rfl) (hs : starEach (e :: es) X.env = (false, eval e X.env) :: starEach es X.env := by rfl) (hplain : (backTo cpos (starEach es X.env)).any (·.1) = false := by rfl) :
    PE X (.Call (.Attribute o name apos) (e :: es) [] cpos) (tBM K T r to t) := by subst hK; exact pe_bm pa slot hty hm ho ha hbase hfew hline hs hplain
theorem pg_tupN (hK : X.K = K) {es : List Expr} {k : Nat} {t : TGs} {n : Nat} (hc : X.calm = true) (h : PGs X es t) (hn : (assignEach es X.env).length = n := by rfl) (hst : (assignEach es X.env).findIdx? (·.1) = none := by rfl) :
    PG X (.Tuple es k pos) (gTup K n t) := by subst hK; exact pg_tup hc h hn hst
theorem pa_starN (hK : X.K = K) (he : PE X e te) (hr : PA X es t) (hs : starEach (.Starred e p :: es) X.env = (true, eval e X.env) :: starEach es X.env := by rfl) : PA X (.Starred e p :: es) (StX.tStar K te t) := by subst hK; exact StX.pa_star he hr hs
theorem pi_enSqN (hK : X.K = K) {ta : TA} {tpos : Pos} {elts : List Expr} {kk : Nat} (hg : Gl X "enumerate") (hm : X.mg "enumerate" = none) (ha : PA X [e] ta) (hs : starEach [e] X.env = [(false, eval e X.env)] := by rfl) :
    PI X (.Tuple elts kk tpos) (.Call (.Name "enumerate" p) [e] [] pos) (iEnSq K ta) := by subst hK; exact pi_enSq hg hm ha hs
end
end L2

set_option Elab.async false
set_option linter.all false
set_option maxRecDepth 100000
set_option maxHeartbeats 4000000
/-! a generator's for over anything that walks -/
namespace L2
open PySem PySem.Spec PyProof.Rows GenW
theorem gfor_it {J : It} {n : Nat} {G : Hp → Prop} {Y : Nat → Hp → V → Hp → Prop} (w : Walk J n G Y) {g : TG} {tb : TGn} {D : GEnds} {ys : List V} {σ : St} {H : Hp} (Pv : Nat → List V → St → Hp → Prop) (h0 : Pv 0 ys σ H) (hG : ∀ i ys σ H, i ≤ n → Pv i ys σ H → G H)
    (hs : ∀ i x ys σ H H', i < n → Pv i ys σ H → Y i H x H' → g x σ H' fun σ2 H2 => tb { D with nx := Pv (i + 1), ct := Pv (i + 1), bk := D.nx } ys σ2 H2) (hd : ∀ ys σ H, Pv n ys σ H → D.nx ys σ H) :
    ∃ W : Nat → Nat → List V → St → Hp → Prop, (∃ m, W 0 m ys σ H) ∧ ∀ i m ys σ H, W i m ys σ H →
      (J.stop i H ∧ D.nx ys σ H) ∨ (J.go i H ∧ ∃ N : List V → St → Hp → Prop, (∀ ys' σ' H', N ys' σ' H' → ∃ m', m' < m ∧ W (i + 1) m' ys' σ' H') ∧ ∀ x H', J.yld i H x H' → g x σ H' fun σ2 H2 => tb { D with nx := N, ct := N, bk := D.nx } ys σ2 H2) := by
  refine ⟨fun i m ys σ H => m = n - i ∧ i ≤ n ∧ Pv i ys σ H, ⟨n - 0, rfl, Nat.zero_le _, h0⟩, ?_⟩
  rintro i m ys σ H ⟨rfl, hi, pv⟩
  by_cases hlt : i < n
  · exact .inr ⟨w.goes i H hlt (hG i ys σ H hi pv), Pv (i + 1), fun ys' σ' H' q => ⟨n - (i + 1), by omega, rfl, hlt, q⟩, fun x H' hy => hs i x ys σ H H' hlt pv (w.yields i H x H' hlt (hG i ys σ H hi pv) hy)⟩
  · obtain rfl : i = n := by omega
    exact .inl ⟨w.stops H (hG i ys σ H hi pv), hd ys σ H pv⟩
end L2

set_option Elab.async false
set_option linter.all false
set_option maxRecDepth 100000
set_option maxHeartbeats 4000000
/-! [x for x in f(..)]: a comprehension over a generator def's call -/
namespace L2
open PySem PySem.Spec PyProof.Rows GenW
section
variable {P : Program} {w : World}
/-- a list of ours is tracked -/
theorem hok_track {H' : Hp} {h : Heap} {S : Addr} {its : List Value} {c : Nat} {out : List V} (hok : HOk P w H' h) (hn : H' S = none) (hlen : out.length ≤ sizeLine) (e : h.get? S = some { cls := .type "list", data := .seq its.toArray c }) (r : Vals out its) : HOk P w (upd H' S (.lst out)) h := fun b u q => by
  by_cases hb : b = S
  · subst hb
    rw [upd_same] at q
    cases q
    exact ⟨hlen, its, c, r, e⟩
  · rw [upd_ne hb] at q
    exact (hok b u q).stay (fun _ _ _ z => z) (fun d z => by rw [upd_ne (ne_of_none z hn)]; exact z) fun d xs z => by rw [upd_ne (ne_of_none z hn)]; exact z
end
section
variable {X : Cx} {pins : List (Addr × Obj)} {σ : St} {H : Hp} {s : Shared} {n₀ : Nat}
theorem LowX.apart (L : LowX X pins n₀) {b : Addr} (hn : n₀ ≤ b) : (b ∈ X.ex ∨ X.s_0.heap.objs.size ≤ b) ∧ b ≠ X.env.locals ∧ (∀ x c, X.env.cells.lookup x = some c → c ≠ b) ∧ ∀ p ∈ X.pn ++ pins, p.1 ≠ b := by
  refine ⟨.inr (Nat.le_trans L.s0 hn), fun z => ?_, fun x c e z => ?_, fun p hp z => ?_⟩
  · rw [z] at hn; exact absurd (Nat.lt_of_lt_of_le L.loc hn) (Nat.lt_irrefl _)
  · rw [← z] at hn; exact absurd (Nat.lt_of_lt_of_le (L.cell x c e) hn) (Nat.lt_irrefl _)
  · rw [← z] at hn; exact absurd (Nat.lt_of_lt_of_le (L.pin p hp) hn) (Nat.lt_irrefl _)
theorem Inv.track {S : Addr} {its : List Value} {c : Nat} {out : List V} (I : Inv X pins σ H s) (L : LowX X pins n₀) (hS : n₀ ≤ S) (hn : H S = none) (hlen : out.length ≤ sizeLine) (e : s.heap.get? S = some { cls := .type "list", data := .seq its.toArray c }) (r : Vals out its) : Inv X pins σ (upd H S (.lst out)) s := by
  refine I.call' (ch := [S]) rfl ⟨fun b o q _ _ _ => q, fun b o q _ _ _ => ⟨o.slots, q⟩, fun b o q z hc => ?_, fun b o q _ => ⟨o, q⟩, fun b xs q => ?_, fun b o u q => ?_, fun b ps q => ?_⟩ (hok_track I.hok hn hlen e r) I.bare fun b hb => ?_
  · rw [upd_ne fun y => hc (by rw [y]; exact List.mem_singleton.mpr rfl)]; exact z
  · rw [upd_ne (ne_of_none q hn)]; exact q
  · rw [upd_ne (ne_of_none q hn)]; exact q
  · exact ⟨#[], by rw [upd_ne (ne_of_none q hn), q]; simp⟩
  · rw [List.mem_singleton.mp hb]; exact L.apart hS
/-- only untracked places from n₀ on have changed -/
theorem Inv.far {s' : Shared} {ch : List Addr} (I : Inv X pins σ H s) (L : LowX X pins n₀) (os : s'.os = s.os) (hb : AllBare s'.gens) (hch : ∀ b ∈ ch, n₀ ≤ b ∧ H b = none) (k : ∀ b o, b ∉ ch → s.heap.get? b = some o → s'.heap.get? b = some o) : Inv X pins σ H s' := by
  refine I.call' (ch := ch) os ⟨fun b o q _ _ hc => k b o hc q, fun b o q _ _ hc => ⟨o.slots, k b o hc q⟩, fun b o q z hc => z, fun b o q hc => ⟨o, k b o hc q⟩, fun b xs q => q, fun b o u q => q, fun b ps q => ⟨#[], by rw [q]; simp⟩⟩ (fun b u q => ?_) hb fun b hb => L.apart (hch b hb).1
  refine (I.hok b u q).stay (fun c v hc z => k c v (fun y => ?_) z) (fun _ z => z) fun _ _ z => z
  have hz := (hch c y).2
  rcases hc with hc | hc
  · rw [hc, q] at hz; cases hz
  · rw [hz] at hc; cases hc
end
/-- the items stand in the new list, the heap is the generator's own -/
def tLcG (sp : SpG3) (ta : TA) : TE := fun σ H Q => ta σ H fun vs H1 => ∀ cs ad, sp vs H1 ⟨cs, fun _ _ _ => True, fun _ _ H2 H3 => H3 = H2, ad⟩ (fun ys H' => ∀ D, H1 D = none → H' D = none → Q (.ref D) (upd H' D (.lst ys))) (fun _ _ _ => False)
section
variable {X : Cx} {k : Nat} {ps : List Str} {sp : SpG3} {x y : Str} {p p1 p2 pos pos2 pos' : Pos} {e : Expr} {es : List Expr} {ta : TA} {scope : Scope} {use : Option (Value → Sem Unit)} {Qf : Value → Shared → Prop} {pins : List (Addr × Obj)} {s : Shared} {σ : St} {H : Hp} {Q : VK}
theorem lcG_core (hc : X.calm = true) (I : Inv X pins σ H s) (O : OwnG3 X.prog X.w X.K X.mg X.base x k ps sp) (room : Room (k + 1) X.A) (ha : PA X (e :: es) ta) (hkind : scope.kind = .function) (hfr : ∀ y ∈ scope.names, y.2 = .free → X.env.scope.names.lookup y.1 = some .cell ∨ X.env.scope.names.lookup y.1 = some .free)
    (hnm : ∀ x ∈ scope.names, x.2 = .local → scope.names.lookup x.1 = some .local) (hy : scope.names.lookup y = some .local) (hgl : Gl X x) (hdb : (x == ("__debug__" : Str)) = false) (hdy : (y == ("__debug__" : Str)) = false)
    (he : starEach (e :: es) X.env = (false, eval e X.env) :: starEach es X.env) (hpl : (backTo pos2 (starEach es X.env)).any (·.1) = false) (hs : ∀ z, foldedSetIterable (.Call (.Name x p) (e :: es) [] pos2) X.env z = pure z)
    (h : tLcG sp ta σ H Q)
    (hRR : ∀ D C s' m H', Inv X pins σ H' s' → Q (.ref D) H' → s'.heap.Ns C m → FpOk X pins H' C → compPost (model X.prog X.w) X.A X.xe use Qf (.ref D) C (.ok .next) s') :
    wpAny (model X.prog X.w) X.A (comprehension (.ListComp (.Name y p1) [⟨.Name y p2, .Call (.Name x p) (e :: es) [] pos2, [], 0⟩] scope pos) scope X.env pos' (newList []) false (eval (.Call (.Name x p) (e :: es) [] pos2) X.env) use) Qf X.xe s := by
  have hfree : ∀ y ∈ scope.names, y.2 = .free → ∃ c, X.env.cells.lookup y.1 = some c := fun y hy e => I.ok.has _ (hfr y hy e)
  obtain ⟨f, fd, G, hm, hk, hbd⟩ := O.ex
  refine wpAny_comprehension_free (use := use) rfl hs (closure_ok hfree) hkind hnm
    (wpAny_Call_Name_kw (ld_glob I hgl hm (PySem.W.callWith_K (h₀ := X.base) I.ok.mod.kin hk (thn (ha.run pos2 pins s σ H _ I h) fun us s1 ⟨vs, H1, I1, r, q⟩ => ⟨I1.kIn, ?_⟩) he hpl) hdb))
  have hl2 : us.length = ps.length := by rw [← r.length]; exact G.len _ _ _ _ _ (q (fun _ _ _ => True) [])
  have hbs := hbd s1 us I1.kIn (by rw [List.append_nil]; exact hl2)
  rw [List.append_nil] at hbs
  obtain ⟨QQ, hQQ⟩ : ∃ QQ : List V → Hp → Prop, QQ = fun (ys : List V) (H' : Hp) => ∀ D, H1 D = none → H' D = none → Q (.ref D) (upd H' D (.lst ys)) := ⟨_, rfl⟩
  have q2 : ∀ cs ad, sp vs H1 ⟨cs, fun _ _ _ => True, fun _ _ H2 H3 => H3 = H2, ad⟩ QQ (fun _ _ _ => False) := by rw [hQQ]; exact q
  refine wpAny_call (codeAny_mono (G.run X.A X.stack s1 H1 ⟨us, []⟩ us vs (fun Dl' Q' => ∃ cs ad, Dl' = ⟨cs, fun _ _ _ => True, fun _ _ H2 H3 => H3 = H2, ad⟩ ∧ Q' = QQ) (fun _ _ _ => False) ⟨_, _, fun _ _ _ => True, [], rfl, rfl⟩ (room.mono (Nat.le_succ k)) I1.env0 hbs r (fun Dl' Q' z => by obtain ⟨cs, ad, z1, z2⟩ := z; rw [z1, z2]; exact q2 cs ad)) fun r s2 hq => ?_)
  cases r with
  | error _ => exact hq.elim
  | ok fl =>
  cases fl with
  | next => exact hq.elim
  | brk => exact hq.elim
  | cont => exact hq.elim
  | ret u =>
  obtain ⟨a, g, c, go, rfl, ha1, ha2, hgo, isg, hgs, hos, hba, hkp, wake⟩ := hq
  have I2 : Inv X pins σ H1 s2 := I1.call' (ch := []) hos (Un.kept hkp) (I1.hok.kept hkp) hba fun _ z => nomatch z
  refine wpAny_pyIter_gen (isg _ hgo) ?_
  have L : LowX X pins s1.heap.objs.size := I1.low
  have hfrF : ∀ b ∈ frs X.stack, b < s1.heap.objs.size := fun b hb => by
    obtain ⟨_, o, ho, _⟩ := I1.stack.mem hb
    exact Heap.lt_size ho
  have hgl2 : g < s2.gens.size := (Array.getElem?_eq_some_iff.mp hgs).1
  refine wpAny_newObj_type (newEnv_comp ?_) (by show 0 ≤ sizeLine; decide)
  obtain ⟨D, hD⟩ : ∃ D, s2.heap.objs.size = D := ⟨_, rfl⟩
  obtain ⟨C, hC⟩ : ∃ C, s2.heap.objs.size + 1 = C := ⟨_, rfl⟩
  have hDC : D ≠ C := by rw [← hD, ← hC]; exact Nat.ne_of_lt (Nat.lt_succ_self _)
  have nDlt : s1.heap.objs.size < D := by rw [← hD]; exact Nat.lt_of_le_of_lt ha1 ha2
  have nD : s1.heap.objs.size ≤ D := Nat.le_of_lt nDlt
  have nClt : s1.heap.objs.size < C := by rw [← hC]; exact Nat.lt_succ_of_lt (Nat.lt_of_le_of_lt ha1 ha2)
  have nC : s1.heap.objs.size ≤ C := Nat.le_of_lt nClt
  have hCs : (s2.heap.push { cls := .type "list", data := .seq ([] : List Value).toArray }).objs.size = C := by rw [Heap.size_push]; exact hC
  generalize hce : compEnvC scope (cellsFrom ((s2.heap.push { cls := .type "list", data := .seq ([] : List Value).toArray }).objs.size + 1) scope.names (cloFrom X.env.cells scope.names [])) (s2.heap.push { cls := .type "list", data := .seq ([] : List Value).toArray }).objs.size X.env = ce
  rw [hCs] at hce
  have cL : ce.locals = C := by subst hce; rfl
  have cK : ce.scope.kind = .function := by subst hce; exact hkind
  have cY : ce.kindOf y = some .local := by subst hce; exact lookup_relabel_local hy
  have cP : (ce.scope.kind == .class || (ce.scope.kind == .module && ce.locals != ce.globals)) = false := by rw [cK]; rfl
  show codeAny (model X.prog X.w) X.A (.compStart (.ListComp (.Name y p1) [⟨.Name y p2, .Call (.Name x p) (e :: es) [] pos2, [], 0⟩] scope pos) 0 (.ref a) (.ref s2.heap.objs.size) (compEnvC scope (cellsFrom ((s2.heap.push { cls := .type "list", data := .seq ([] : List Value).toArray }).objs.size + 1) scope.names (cloFrom X.env.cells scope.names [])) (s2.heap.push { cls := .type "list", data := .seq ([] : List Value).toArray }).objs.size X.env))
    (compPost (model X.prog X.w) X.A X.xe use Qf (.ref s2.heap.objs.size) (s2.heap.push { cls := .type "list", data := .seq ([] : List Value).toArray }).objs.size) { s2 with heap := pushCells ((s2.heap.push { cls := .type "list", data := .seq ([] : List Value).toArray }).push { cls := .type "dict", data := .dict #[] }) scope.names }
  rw [hCs, hD, hce]
  have nsC4 : (pushCells ((s2.heap.push { cls := .type "list", data := .seq ([] : List Value).toArray }).push { cls := .type "dict", data := .dict #[] }) scope.names).Ns C fun _ => none := by
    rw [← hCs]
    exact Heap.Ns.keeps (Heap.Ns.new ..) fun b o e => pushCells_keeps _ _ _ _ e
  have lD4 : (pushCells ((s2.heap.push { cls := .type "list", data := .seq ([] : List Value).toArray }).push { cls := .type "dict", data := .dict #[] }) scope.names).get? D = some { cls := .type "list", data := .seq ([] : List Value).toArray 0 } := by
    refine pushCells_keeps _ _ _ _ (Heap.get?_push_of_some _ ?_)
    rw [← hD]
    exact Heap.get?_push_size _ rfl
  have kp4 : ∀ b o, s2.heap.get? b = some o → (pushCells ((s2.heap.push { cls := .type "list", data := .seq ([] : List Value).toArray }).push { cls := .type "dict", data := .dict #[] }) scope.names).get? b = some o := fun b o e => pushCells_keeps _ _ _ _ (Heap.get?_push_of_some _ (Heap.get?_push_of_some _ e))
  obtain ⟨s4, hs4⟩ : ∃ s4 : Shared, s4 = { s2 with heap := pushCells ((s2.heap.push { cls := .type "list", data := .seq ([] : List Value).toArray }).push { cls := .type "dict", data := .dict #[] }) scope.names } := ⟨_, rfl⟩
  rw [← hs4]
  have nsC : s4.heap.Ns C fun _ => none := by rw [hs4]; exact nsC4
  have lD : s4.heap.get? D = some { cls := .type "list", data := .seq ([] : List Value).toArray 0 } := by rw [hs4]; exact lD4
  have kp : ∀ b o, s2.heap.get? b = some o → s4.heap.get? b = some o := by rw [hs4]; exact kp4
  have os4 : s4.os = s2.os := by rw [hs4]
  have gn4 : s4.gens = s2.gens := by rw [hs4]
  clear hs4 kp4 lD4 nsC4
  have hba4 : AllBare s4.gens := by rw [gn4]; exact hba
  have I4 : Inv X pins σ H1 s4 := I2.call' (ch := []) os4 (Un.kept kp) (I2.hok.kept kp) hba4 fun _ z => nomatch z
  have hCD : ∀ {b : Addr}, b ∈ [C, D] → b = C ∨ b = D := fun hb => by simpa using hb
  -- the deal
  generalize hDl : (⟨fun ys HE sE => Inv X pins σ HE sE ∧ (∃ m, sE.heap.Ns C m) ∧ ∃ its n, sE.heap.get? D = some { cls := .type "list", data := .seq (its : List Value).toArray n } ∧ Vals ys its ∧ ys.length ≤ sizeLine, fun _ _ _ => True, fun _ _ H2 H3 => H3 = H2, [C, D]⟩ : Deal) = Dl
  have hA : ∃ cs ad, Dl = ⟨cs, fun _ _ _ => True, fun _ _ H2 H3 => H3 = H2, ad⟩ ∧ QQ = QQ := ⟨_, _, hDl.symm, rfl⟩
  have adAt : ∀ {HE : Hp} {sE : Shared} {m : Str → Option Value} {its : List Value} {n : Nat}, sE.heap.Ns C m → sE.heap.get? D = some { cls := .type "list", data := .seq its.toArray n } → ∀ b ∈ Dl.ad, ∃ o, sE.heap.get? b = some o ∧ ∀ v, o.data ≠ .cell v := fun {HE sE m its n} hn hl b hb => by
    subst hDl
    rcases hCD hb with rfl | rfl
    · obtain ⟨o, es', ep, ho, hd, _⟩ := hn
      exact ⟨o, ho, fun v z => by rw [hd] at z; cases z⟩
    · exact ⟨_, hl, fun v z => by cases z⟩
  have mkWk : ∀ {H' s' m its n}, Inv X pins σ H' s' → s1.heap.objs.size ≤ s'.heap.objs.size → H' C = none → H' D = none → s'.heap.Ns C m → s'.heap.get? D = some { cls := .type "list", data := .seq (its : List Value).toArray n } → Wk X.prog X.w X.base X.stack s1.heap.objs.size Dl.ad H' s' := fun {H' s' m its n} I' hz hc' hd' hn hl =>
    ⟨I'.bare, I'.bs, I'.stack, fun b hb => ⟨hfrF b hb, I'.stkFree b hb⟩, I'.hok, hz, fun b hb => by
      have q := adAt (HE := H') hn hl b hb
      subst hDl
      rcases hCD hb with rfl | rfl
      · exact ⟨nClt, hc', fun z => absurd (hfrF _ z) (Nat.not_lt.mpr nC), q⟩
      · exact ⟨nDlt, hd', fun z => absurd (hfrF _ z) (Nat.not_lt.mpr nD), q⟩⟩
  have go4 : s4.heap.get? a = some go := kp _ _ hgo
  have loop : codeAny (model X.prog X.w) X.A (.compLoop (.ListComp (.Name y p1) [⟨.Name y p2, .Call (.Name x p) (e :: es) [] pos2, [], 0⟩] scope pos) 0 (.ref a) (.ref D) ce) (compPost (model X.prog X.w) X.A X.xe use Qf (.ref D) C) s4 := by
    obtain ⟨Pd, hPd⟩ : ∃ Pd : Nat → Shared → Prop, Pd = fun n s' => ∃ gs H', s'.gens[g]? = some gs ∧ gs.Goes (model X.prog X.w) X.A.in1 (End3 X.prog X.w X.stack s1.heap.objs.size Dl QQ (fun _ _ _ => False) a g) (GY3 X.prog X.w X.base X.stack [(a, go)] s1.heap.objs.size Dl) n (.send .none) (s'.setGen g .running) ∧ s'.heap.get? a = some go ∧ Inv X pins σ H' s' := ⟨_, rfl⟩
    refine compLoop_any Pd ?_ sizeLine ?_
    · intro n s3 hh
      rw [hPd] at hh
      obtain ⟨gs, H3, hgs3, hgoes, hgo3, I3⟩ := hh
      have hgl3 : g < s3.gens.size := (Array.getElem?_eq_some_iff.mp hgs3).1
      have hcd : ∃ nm qn, go.cls = .type "generator" ∧ go.data = .fields #[.int g 0, nm, qn] := by
        obtain ⟨o, nm, qn, ho, hc, hd, _⟩ := isg _ hgo
        rw [hgo] at ho; cases ho
        exact ⟨nm, qn, hc, hd⟩
      obtain ⟨nm, qn, hgc, hgd⟩ := hcd
      refine wpAny_gsz (n := g + 1) hgl3 (next_genG (A := X.A) (I3.ok.hd hc) I3.nolimit room.depth (isg _ hgo3) hgs3 hgoes (fun v s5 gs' hbare hv => ?_) (fun s5 hf h' hk' => ?_) fun er s5 her => ?_)
      · obtain ⟨ys, x1, HE, H4, mine, hn, rv, hcs, hz, un, os5, ag5, hok5, hpn, hz5, hcp, yd, hmine, hmad, wakes⟩ := hv
        intro hsz
        have hcs2 : Inv X pins σ HE (s3.setGen g .running) ∧ (∃ m, (s3.setGen g .running).heap.Ns C m) ∧ ∃ its n, (s3.setGen g .running).heap.get? D = some { cls := .type "list", data := .seq (its : List Value).toArray n } ∧ Vals ys its ∧ ys.length ≤ sizeLine := by subst hDl; exact hcs
        obtain ⟨IE, ⟨m, hnC⟩, its, nn, hlD, hvs, hlen0⟩ := hcs2
        have hsz5 : g < s5.gens.size := by
          have z : (s5.setGen g gs').gens.size = s5.gens.size := setGen_size _ _ _
          have z2 : g + 1 ≤ (s5.setGen g gs').gens.size := hsz
          omega
        have pin : ∀ b ∈ [C, D], ∀ o, (s3.setGen g .running).heap.get? b = some o → s5.heap.get? b = some o ∧ H4 b = none := fun b hb o eo => hcp (b, o) (by subst hDl; exact mem_pinsAt hb eo)
        have hnC5 : s5.heap.Ns C m := hnC.at' fun o eo => (pin C List.mem_cons_self o eo).1
        obtain ⟨hlD5, nD4⟩ := pin D (List.mem_cons_of_mem _ List.mem_cons_self) _ hlD
        have nC4 : H4 C = none := by
          obtain ⟨o, _, _, ho, _⟩ := hnC
          exact (pin C List.mem_cons_self o ho).2
        have I5 : Inv X pins σ H4 (s5.setGen g gs') := (IE.stretch L un hok5 os5 ag5).gensTo (allBare_setGen ag5 hbare)
        have hgo5 : s5.heap.get? a = some go := (hpn _ (List.mem_singleton.mpr rfl)).1
        refine go_of (s := s5.setGen g gs') hgo5 hgc hgd (by decide) ?_
        refine wpAny_assign_Name (wpAny_storeName_local cY (m := m) (by rw [cL]; exact hnC5) (fun h6 hn6 hb6 => ?_) cP)
        rw [cL] at hn6 hb6
        refine wpAny_tests_nil ?_
        rw [if_pos rfl]
        refine wpAny_Name (wpAny_loadName_local cK cY (m := fun z => if z = y then some v else m z) (by rw [cL]; exact hn6) (if_pos rfl) ?_) hdy
        have hlD6 : h6.get? D = some { cls := .type "list", data := .seq its.toArray nn } := (hb6.2 D hDC).trans hlD5
        have hlen := hvs.length
        refine append_at hlD6 (fun h7 hb7 hl7 => ?_) (by rw [List.size_toArray]; omega)
        have keep : ∀ b o, b ∉ [C, D] → s5.heap.get? b = some o → h7.get? b = some o := fun b o hb eo => by
          simp only [List.mem_cons, List.not_mem_nil, or_false, not_or] at hb
          exact (hb7.2 b hb.2).trans ((hb6.2 b hb.1).trans eo)
        have I7 : Inv X pins σ H4 { s5.setGen g gs' with heap := h7, toks := s5.toks + 1 } := I5.far L rfl I5.bare (ch := [C, D]) (fun b hb => by rcases hCD hb with rfl | rfl; exact ⟨nC, nC4⟩; exact ⟨nD, nD4⟩) keep
        have haC : a ∉ [C, D] := fun hb => by
          rcases hCD hb with z | z
          · rw [z, ← hC] at ha2; exact absurd (Nat.lt_trans ha2 (Nat.lt_succ_self _)) (Nat.lt_irrefl _)
          · rw [z, ← hD] at ha2; exact absurd ha2 (Nat.lt_irrefl _)
        have hnC7 : h7.Ns C fun z => if z = y then some v else m z := hn6.sameBut hb7 (Ne.symm hDC)
        obtain ⟨s7, hs7⟩ : ∃ s7 : Shared, s7 = { s5.setGen g gs' with heap := h7, toks := s5.toks + 1 } := ⟨_, rfl⟩
        have hp7 : s7.heap = h7 := by rw [hs7]
        have gn7 : s7.gens = (s5.setGen g gs').gens := by rw [hs7]
        rw [← hs7] at I7
        have I7r : Inv X pins σ H4 (s7.setGen g .running) := I7.gensTo (allBare_setGen I7.bare rfl)
        have hgs7 : s7.gens[g]? = some gs' := by rw [gn7]; exact setGen_at hsz5
        have hn7 : (s7.setGen g .running).heap.Ns C fun z => if z = y then some v else m z := by show s7.heap.Ns C _; rw [hp7]; exact hnC7
        have hl7' : (s7.setGen g .running).heap.get? D = some { cls := .type "list", data := .seq (its ++ [v]).toArray (nn + 1) } := by
          show s7.heap.get? D = _
          rw [hp7, hl7]
          simp
        have hz7 : s1.heap.objs.size ≤ (s7.setGen g .running).heap.objs.size := Nat.le_trans nC (Nat.le_of_lt hn7.lt)
        have wk := wakes H4 (s7.setGen g .running) (mkWk I7r hz7 nC4 nD4 hn7 hl7') (by subst hDl; exact ⟨I7r, ⟨_, hn7⟩, _, _, hl7', hvs.append (.cons rv .nil), by rw [List.length_append, List.length_singleton]; omega⟩) (fun b mb o eb => ⟨(by show s7.heap.get? b = _; rw [hp7]; exact keep b o (fun z => hmad b mb (by subst hDl; exact z)) eb), (hmine b mb).1⟩) (by subst hDl; rfl)
        cases n with
        | zero => exact False.elim wk
        | succ q =>
          have fin : Pd q s7 := by
            rw [hPd]
            exact ⟨gs', H4, hgs7, wk, by rw [hp7]; exact keep a go haC hgo5, I7⟩
          rw [hs7] at fin
          exact ⟨q, Nat.lt_succ_self q, fin⟩
      · obtain ⟨ys, HE, H4, hcs, hz, os5, ag5, un, hok5, hcp, hQ⟩ := hf
        intro _
        have hcs2 : Inv X pins σ HE (s3.setGen g .running) ∧ (∃ m, (s3.setGen g .running).heap.Ns C m) ∧ ∃ its n, (s3.setGen g .running).heap.get? D = some { cls := .type "list", data := .seq (its : List Value).toArray n } ∧ Vals ys its ∧ ys.length ≤ sizeLine := by subst hDl; exact hcs
        obtain ⟨IE, ⟨m, hnC⟩, its, nn, hlD, hvs, hlen0⟩ := hcs2
        have pin : ∀ b ∈ [C, D], ∀ o, (s3.setGen g .running).heap.get? b = some o → s5.heap.get? b = some o ∧ H4 b = none := fun b hb o eo => hcp (b, o) (by subst hDl; exact mem_pinsAt hb eo)
        have hnC5 : s5.heap.Ns C m := hnC.at' fun o eo => (pin C List.mem_cons_self o eo).1
        obtain ⟨hlD5, nD4⟩ := pin D (List.mem_cons_of_mem _ List.mem_cons_self) _ hlD
        have nC4 : H4 C = none := by
          obtain ⟨o, _, _, ho, _⟩ := hnC
          exact (pin C List.mem_cons_self o ho).2
        have I5 : Inv X pins σ H4 (s5.setGen g .finished) := (IE.stretch L un hok5 os5 ag5).gensTo (allBare_setGen ag5 rfl)
        have I6 : Inv X pins σ H4 { s5.setGen g .finished with heap := h' } := I5.call' (ch := []) rfl (Un.kept hk') (I5.hok.kept hk') I5.bare fun _ z => nomatch z
        have I7 := I6.track L nD nD4 hlen0 (hk' _ _ hlD5) hvs
        refine hRR D C _ m _ I7 ?_ (hnC5.keeps hk') ?_
        · rw [hQQ] at hQ
          exact hQ D (I1.hok.fresh nD) nD4
        · obtain ⟨t1, t2, t3, t4⟩ := L.apart nC
          exact ⟨by rw [upd_ne (Ne.symm hDC)]; exact nC4, t2, fun z => I1.nofs nC z, t1, t3, t4⟩
      · obtain ⟨ys, HE, sE, hcs, hz, cx, hge⟩ := her
        obtain ⟨_, _, _, _, _, _, _, _, _, _, _, _, hE⟩ := cx
        exact hE.elim
    · rw [hPd]
      refine ⟨.fresh c, H1, by rw [gn4]; exact hgs, ⟨rfl, ?_⟩, go4, I4⟩
      refine wake X.A.in1 (s4.setGen g .running) Dl QQ hA room.in1 I1.ok.frames kp (os4.trans hos) (allBare_setGen hba4 rfl) (fun b hb => ?_) ?_
      · refine ⟨?_, adAt (HE := H1) (sE := s4.setGen g .running) nsC lD b hb⟩
        subst hDl
        rcases hCD hb with rfl | rfl
        · rw [← hC]; exact Nat.le_succ _
        · rw [← hD]; exact Nat.le_refl _
      · subst hDl
        exact ⟨I4.gensTo (allBare_setGen hba4 rfl), ⟨_, nsC⟩, [], 0, lD, .nil, Nat.zero_le _⟩
  exact codeAny_compStart_list loop (wpAny_pyIter_gen (isg _ go4) loop)
end
end L2

set_option Elab.async false
set_option linter.all false
set_option maxRecDepth 100000
set_option maxHeartbeats 4000000
namespace L2
open PySem PySem.Spec PyProof.Rows GenW
theorem pi_tupK {X : Cx} {K : PySem.W.Frag} (h : X.K = K) {tg l : Expr} {tl : TE} (hl : PE X l tl) : PI X tg l (iTup K tl) := by subst h; exact pi_tup hl
theorem cr_minDK {X : Cx} {K : PySem.W.Frag} (h : X.K = K) (hc : X.calm = true) (hu : X.A.units + 64 < cLine) : CallRK X (.builtin "min") [Str.ofString "default"] (rMxD K mnD) := by subst h; exact cr_minD hc hu
theorem cr_maxDK {X : Cx} {K : PySem.W.Frag} (h : X.K = K) (hc : X.calm = true) (hu : X.A.units + 64 < cLine) : CallRK X (.builtin "max") [Str.ofString "default"] (rMxD K mxD) := by subst h; exact cr_maxD hc hu
section
variable {X : Cx} {k : Nat} {ps : List Str} {sp : SpG3} {x y : Str} {p p1 p2 pos pos2 : Pos} {e : Expr} {es : List Expr} {ta : TA} {scope : Scope} {own : List (Str × Nat)}
/-- as a value -/
theorem pe_lcG (hc : X.calm = true) (O : OwnG3 X.prog X.w X.K X.mg X.base x k ps sp) (room : Room (k + 1) X.A) (ha : PA X (e :: es) ta) (ok : BlkOk X.N X.env.scope scope own) (hy : scope.names.lookup y = some .local) (hgl : Gl X x := by rfl) (hdb : (x == ("__debug__" : Str)) = false := by decide) (hdy : (y == ("__debug__" : Str)) = false := by decide)
    (he : starEach (e :: es) X.env = (false, eval e X.env) :: starEach es X.env := by rfl) (hpl : (backTo pos2 (starEach es X.env)).any (·.1) = false := by rfl) (hs : ∀ z, foldedSetIterable (.Call (.Name x p) (e :: es) [] pos2) X.env z = pure z := by intro _; rfl) :
    PE X (.ListComp (.Name y p1) [⟨.Name y p2, .Call (.Name x p) (e :: es) [] pos2, [], 0⟩] scope pos) (tLcG sp ta) := by
  refine ⟨fun pins s σ H Q I h => ?_⟩
  rw [eval_ListComp]
  refine lcG_core hc I O room ha ok.kind ok.free (fun y hy e => by rw [ok.uniq y hy, e]) hy hgl hdb hdy he hpl hs h fun D C s' m H' I' q hn f => ⟨m, hn, fun h'' sb => ?_⟩
  obtain ⟨f0, f1, f2, f3, f4, f5⟩ := f
  exact ⟨.ref D, H', I'.turned (t' := s'.toks) (fun b o hb e => (sb.2 b hb).trans e) f0 f1 f3 f4 f5, rfl, q⟩
/-- name = [..] on one line, the name a local -/
theorem ps_setLcG {i : Nat} {n : Str} {py spos : Pos} (hc : X.calm = true) (hN : X.N.Nodup) (hn : X.N[i]? = some n) (hnl : X.env.scope.names.lookup n = some .local) (hsw : swapsWith (.ListComp (.Name y p1) [⟨.Name y p2, .Call (.Name x p) (e :: es) [] pos2, [], 0⟩] scope pos) (some (.Name n py)) spos.line X.env = pure true)
    (O : OwnG3 X.prog X.w X.K X.mg X.base x k ps sp) (room : Room (k + 1) X.A) (ha : PA X (e :: es) ta) (ok : BlkOk X.N X.env.scope scope own) (hy : scope.names.lookup y = some .local) (hgl : Gl X x := by rfl) (hdb : (x == ("__debug__" : Str)) = false := by decide) (hdy : (y == ("__debug__" : Str)) = false := by decide)
    (he : starEach (e :: es) X.env = (false, eval e X.env) :: starEach es X.env := by rfl) (hpl : (backTo pos2 (starEach es X.env)).any (·.1) = false := by rfl) (hs : ∀ z, foldedSetIterable (.Call (.Name x p) (e :: es) [] pos2) X.env z = pure z := by intro _; rfl) :
    PS X (.Assign [.Name n py] (.ListComp (.Name y p1) [⟨.Name y p2, .Call (.Name x p) (e :: es) [] pos2, [], 0⟩] scope pos) spos) (tAsg (tLcG sp ta) (gName i)) := by
  refine ⟨fun pins s σ H D I h => ?_⟩
  rw [exec_Assign_Name_used _ _ _ _ hsw]
  refine wpAny_bind (wpAny_standAt (wpAny_bind ?_))
  show wpAny _ X.A (do let _ ← comprehension (.ListComp (.Name y p1) [⟨.Name y p2, .Call (.Name x p) (e :: es) [] pos2, [], 0⟩] scope pos) scope X.env (firstIterPos [⟨.Name y p2, .Call (.Name x p) (e :: es) [] pos2, [], 0⟩] pos) (newList []) false (eval (.Call (.Name x p) (e :: es) [] pos2) X.env) (some (assign (.Name n py) X.env))) _ _ s
  have h : tLcG sp ta σ H (fun x H1 => gName i x σ H1 D.nx) := h
  refine wpAny_bind (thn (lcG_core (Qf := fun _ s' => SP X pins D .next s') hc I O room ha ok.kind ok.free (fun y hy e => by rw [ok.uniq y hy, e]) hy hgl hdb hdy he hpl hs h fun L C s' m H' I' q hm f => ?_) fun _ s' hq => wpAny_pure (wpAny_pure hq))
  show wpAny _ _ (assign (.Name n py) X.env (.ref L)) _ _ _
  refine wpAny_assign_Name (store_ok2 (v := V.ref L) I' hN hn (.inl hnl) rfl (fun s2 I2 ⟨a, sb, ha⟩ => ?_) (.inr hnl))
  obtain ⟨f0, f1, f2, f3, f4, f5⟩ := f
  have haC : C ≠ a := by
    rcases ha with z | z
    · rw [z]; exact f1
    · exact fun e => f4 n a z e.symm
  refine ⟨m, hm.sameBut sb haC, fun h3 sb3 => ?_⟩
  exact ⟨_, H', I2.turned (t' := s2.toks) (fun b o hb e => (sb3.2 b hb).trans e) f0 f1 f3 f4 f5, q⟩
end
end L2

set_option Elab.async false
set_option linter.all false
set_option maxRecDepth 100000
set_option maxHeartbeats 4000000
/-! [x for x in f(..)], where what is out carries a promise -/
namespace L2
open PySem PySem.Spec PyProof.Rows GenW
/-- the items stand in the new list, the heap is the generator's own -/
def tLcY (sp : SpG3) (ta : TA) : TE := fun σ H Q => ta σ H fun vs H1 => ∃ Y : List V → V → Hp → Prop, ∀ cs ad, sp vs H1 ⟨cs, Y, fun ys x H2 H3 => H3 = H2 ∧ Y ys x H2, ad⟩ (fun ys H' => ∀ D, H1 D = none → H' D = none → Q (.ref D) (upd H' D (.lst ys))) (fun _ _ _ => False)
section
variable {X : Cx} {k : Nat} {ps : List Str} {sp : SpG3} {x y : Str} {p p1 p2 pos pos2 pos' : Pos} {e : Expr} {es : List Expr} {ta : TA} {scope : Scope} {use : Option (Value → Sem Unit)} {Qf : Value → Shared → Prop} {pins : List (Addr × Obj)} {s : Shared} {σ : St} {H : Hp} {Q : VK}
theorem lcY_core (hc : X.calm = true) (I : Inv X pins σ H s) (O : OwnG3 X.prog X.w X.K X.mg X.base x k ps sp) (room : Room (k + 1) X.A) (ha : PA X (e :: es) ta) (hkind : scope.kind = .function) (hfr : ∀ y ∈ scope.names, y.2 = .free → X.env.scope.names.lookup y.1 = some .cell ∨ X.env.scope.names.lookup y.1 = some .free)
    (hnm : ∀ x ∈ scope.names, x.2 = .local → scope.names.lookup x.1 = some .local) (hy : scope.names.lookup y = some .local) (hgl : Gl X x) (hdb : (x == ("__debug__" : Str)) = false) (hdy : (y == ("__debug__" : Str)) = false)
    (he : starEach (e :: es) X.env = (false, eval e X.env) :: starEach es X.env) (hpl : (backTo pos2 (starEach es X.env)).any (·.1) = false) (hs : ∀ z, foldedSetIterable (.Call (.Name x p) (e :: es) [] pos2) X.env z = pure z)
    (h : tLcY sp ta σ H Q)
    (hRR : ∀ D C s' m H', Inv X pins σ H' s' → Q (.ref D) H' → s'.heap.Ns C m → FpOk X pins H' C → compPost (model X.prog X.w) X.A X.xe use Qf (.ref D) C (.ok .next) s') :
    wpAny (model X.prog X.w) X.A (comprehension (.ListComp (.Name y p1) [⟨.Name y p2, .Call (.Name x p) (e :: es) [] pos2, [], 0⟩] scope pos) scope X.env pos' (newList []) false (eval (.Call (.Name x p) (e :: es) [] pos2) X.env) use) Qf X.xe s := by
  have hfree : ∀ y ∈ scope.names, y.2 = .free → ∃ c, X.env.cells.lookup y.1 = some c := fun y hy e => I.ok.has _ (hfr y hy e)
  obtain ⟨f, fd, G, hm, hk, hbd⟩ := O.ex
  refine wpAny_comprehension_free (use := use) rfl hs (closure_ok hfree) hkind hnm
    (wpAny_Call_Name_kw (ld_glob I hgl hm (PySem.W.callWith_K (h₀ := X.base) I.ok.mod.kin hk (thn (ha.run pos2 pins s σ H _ I h) fun us s1 ⟨vs, H1, I1, r, Y, q⟩ => ⟨I1.kIn, ?_⟩) he hpl) hdb))
  have hl2 : us.length = ps.length := by rw [← r.length]; exact G.len _ _ _ _ _ (q (fun _ _ _ => True) [])
  have hbs := hbd s1 us I1.kIn (by rw [List.append_nil]; exact hl2)
  rw [List.append_nil] at hbs
  obtain ⟨QQ, hQQ⟩ : ∃ QQ : List V → Hp → Prop, QQ = fun (ys : List V) (H' : Hp) => ∀ D, H1 D = none → H' D = none → Q (.ref D) (upd H' D (.lst ys)) := ⟨_, rfl⟩
  have q2 : ∀ cs ad, sp vs H1 ⟨cs, Y, fun ys x H2 H3 => H3 = H2 ∧ Y ys x H2, ad⟩ QQ (fun _ _ _ => False) := by rw [hQQ]; exact q
  refine wpAny_call (codeAny_mono (G.run X.A X.stack s1 H1 ⟨us, []⟩ us vs (fun Dl' Q' => ∃ cs ad, Dl' = ⟨cs, Y, fun ys x H2 H3 => H3 = H2 ∧ Y ys x H2, ad⟩ ∧ Q' = QQ) (fun _ _ _ => False) ⟨_, _, fun _ _ _ => True, [], rfl, rfl⟩ (room.mono (Nat.le_succ k)) I1.env0 hbs r (fun Dl' Q' z => by obtain ⟨cs, ad, z1, z2⟩ := z; rw [z1, z2]; exact q2 cs ad)) fun r s2 hq => ?_)
  cases r with
  | error _ => exact hq.elim
  | ok fl =>
  cases fl with
  | next => exact hq.elim
  | brk => exact hq.elim
  | cont => exact hq.elim
  | ret u =>
  obtain ⟨a, g, c, go, rfl, ha1, ha2, hgo, isg, hgs, hos, hba, hkp, wake⟩ := hq
  have I2 : Inv X pins σ H1 s2 := I1.call' (ch := []) hos (Un.kept hkp) (I1.hok.kept hkp) hba fun _ z => nomatch z
  refine wpAny_pyIter_gen (isg _ hgo) ?_
  have L : LowX X pins s1.heap.objs.size := I1.low
  have hfrF : ∀ b ∈ frs X.stack, b < s1.heap.objs.size := fun b hb => by
    obtain ⟨_, o, ho, _⟩ := I1.stack.mem hb
    exact Heap.lt_size ho
  have hgl2 : g < s2.gens.size := (Array.getElem?_eq_some_iff.mp hgs).1
  refine wpAny_newObj_type (newEnv_comp ?_) (by show 0 ≤ sizeLine; decide)
  obtain ⟨D, hD⟩ : ∃ D, s2.heap.objs.size = D := ⟨_, rfl⟩
  obtain ⟨C, hC⟩ : ∃ C, s2.heap.objs.size + 1 = C := ⟨_, rfl⟩
  have hDC : D ≠ C := by rw [← hD, ← hC]; exact Nat.ne_of_lt (Nat.lt_succ_self _)
  have nDlt : s1.heap.objs.size < D := by rw [← hD]; exact Nat.lt_of_le_of_lt ha1 ha2
  have nD : s1.heap.objs.size ≤ D := Nat.le_of_lt nDlt
  have nClt : s1.heap.objs.size < C := by rw [← hC]; exact Nat.lt_succ_of_lt (Nat.lt_of_le_of_lt ha1 ha2)
  have nC : s1.heap.objs.size ≤ C := Nat.le_of_lt nClt
  have hCs : (s2.heap.push { cls := .type "list", data := .seq ([] : List Value).toArray }).objs.size = C := by rw [Heap.size_push]; exact hC
  generalize hce : compEnvC scope (cellsFrom ((s2.heap.push { cls := .type "list", data := .seq ([] : List Value).toArray }).objs.size + 1) scope.names (cloFrom X.env.cells scope.names [])) (s2.heap.push { cls := .type "list", data := .seq ([] : List Value).toArray }).objs.size X.env = ce
  rw [hCs] at hce
  have cL : ce.locals = C := by subst hce; rfl
  have cK : ce.scope.kind = .function := by subst hce; exact hkind
  have cY : ce.kindOf y = some .local := by subst hce; exact lookup_relabel_local hy
  have cP : (ce.scope.kind == .class || (ce.scope.kind == .module && ce.locals != ce.globals)) = false := by rw [cK]; rfl
  show codeAny (model X.prog X.w) X.A (.compStart (.ListComp (.Name y p1) [⟨.Name y p2, .Call (.Name x p) (e :: es) [] pos2, [], 0⟩] scope pos) 0 (.ref a) (.ref s2.heap.objs.size) (compEnvC scope (cellsFrom ((s2.heap.push { cls := .type "list", data := .seq ([] : List Value).toArray }).objs.size + 1) scope.names (cloFrom X.env.cells scope.names [])) (s2.heap.push { cls := .type "list", data := .seq ([] : List Value).toArray }).objs.size X.env))
    (compPost (model X.prog X.w) X.A X.xe use Qf (.ref s2.heap.objs.size) (s2.heap.push { cls := .type "list", data := .seq ([] : List Value).toArray }).objs.size) { s2 with heap := pushCells ((s2.heap.push { cls := .type "list", data := .seq ([] : List Value).toArray }).push { cls := .type "dict", data := .dict #[] }) scope.names }
  rw [hCs, hD, hce]
  have nsC4 : (pushCells ((s2.heap.push { cls := .type "list", data := .seq ([] : List Value).toArray }).push { cls := .type "dict", data := .dict #[] }) scope.names).Ns C fun _ => none := by
    rw [← hCs]
    exact Heap.Ns.keeps (Heap.Ns.new ..) fun b o e => pushCells_keeps _ _ _ _ e
  have lD4 : (pushCells ((s2.heap.push { cls := .type "list", data := .seq ([] : List Value).toArray }).push { cls := .type "dict", data := .dict #[] }) scope.names).get? D = some { cls := .type "list", data := .seq ([] : List Value).toArray 0 } := by
    refine pushCells_keeps _ _ _ _ (Heap.get?_push_of_some _ ?_)
    rw [← hD]
    exact Heap.get?_push_size _ rfl
  have kp4 : ∀ b o, s2.heap.get? b = some o → (pushCells ((s2.heap.push { cls := .type "list", data := .seq ([] : List Value).toArray }).push { cls := .type "dict", data := .dict #[] }) scope.names).get? b = some o := fun b o e => pushCells_keeps _ _ _ _ (Heap.get?_push_of_some _ (Heap.get?_push_of_some _ e))
  obtain ⟨s4, hs4⟩ : ∃ s4 : Shared, s4 = { s2 with heap := pushCells ((s2.heap.push { cls := .type "list", data := .seq ([] : List Value).toArray }).push { cls := .type "dict", data := .dict #[] }) scope.names } := ⟨_, rfl⟩
  rw [← hs4]
  have nsC : s4.heap.Ns C fun _ => none := by rw [hs4]; exact nsC4
  have lD : s4.heap.get? D = some { cls := .type "list", data := .seq ([] : List Value).toArray 0 } := by rw [hs4]; exact lD4
  have kp : ∀ b o, s2.heap.get? b = some o → s4.heap.get? b = some o := by rw [hs4]; exact kp4
  have os4 : s4.os = s2.os := by rw [hs4]
  have gn4 : s4.gens = s2.gens := by rw [hs4]
  clear hs4 kp4 lD4 nsC4
  have hba4 : AllBare s4.gens := by rw [gn4]; exact hba
  have I4 : Inv X pins σ H1 s4 := I2.call' (ch := []) os4 (Un.kept kp) (I2.hok.kept kp) hba4 fun _ z => nomatch z
  have hCD : ∀ {b : Addr}, b ∈ [C, D] → b = C ∨ b = D := fun hb => by simpa using hb
  -- the deal
  generalize hDl : (⟨fun ys HE sE => Inv X pins σ HE sE ∧ (∃ m, sE.heap.Ns C m) ∧ ∃ its n, sE.heap.get? D = some { cls := .type "list", data := .seq (its : List Value).toArray n } ∧ Vals ys its ∧ ys.length ≤ sizeLine, Y, fun ys x H2 H3 => H3 = H2 ∧ Y ys x H2, [C, D]⟩ : Deal) = Dl
  have hA : ∃ cs ad, Dl = ⟨cs, Y, fun ys x H2 H3 => H3 = H2 ∧ Y ys x H2, ad⟩ ∧ QQ = QQ := ⟨_, _, hDl.symm, rfl⟩
  have adAt : ∀ {HE : Hp} {sE : Shared} {m : Str → Option Value} {its : List Value} {n : Nat}, sE.heap.Ns C m → sE.heap.get? D = some { cls := .type "list", data := .seq its.toArray n } → ∀ b ∈ Dl.ad, ∃ o, sE.heap.get? b = some o ∧ ∀ v, o.data ≠ .cell v := fun {HE sE m its n} hn hl b hb => by
    subst hDl
    rcases hCD hb with rfl | rfl
    · obtain ⟨o, es', ep, ho, hd, _⟩ := hn
      exact ⟨o, ho, fun v z => by rw [hd] at z; cases z⟩
    · exact ⟨_, hl, fun v z => by cases z⟩
  have mkWk : ∀ {H' s' m its n}, Inv X pins σ H' s' → s1.heap.objs.size ≤ s'.heap.objs.size → H' C = none → H' D = none → s'.heap.Ns C m → s'.heap.get? D = some { cls := .type "list", data := .seq (its : List Value).toArray n } → Wk X.prog X.w X.base X.stack s1.heap.objs.size Dl.ad H' s' := fun {H' s' m its n} I' hz hc' hd' hn hl =>
    ⟨I'.bare, I'.bs, I'.stack, fun b hb => ⟨hfrF b hb, I'.stkFree b hb⟩, I'.hok, hz, fun b hb => by
      have q := adAt (HE := H') hn hl b hb
      subst hDl
      rcases hCD hb with rfl | rfl
      · exact ⟨nClt, hc', fun z => absurd (hfrF _ z) (Nat.not_lt.mpr nC), q⟩
      · exact ⟨nDlt, hd', fun z => absurd (hfrF _ z) (Nat.not_lt.mpr nD), q⟩⟩
  have go4 : s4.heap.get? a = some go := kp _ _ hgo
  have loop : codeAny (model X.prog X.w) X.A (.compLoop (.ListComp (.Name y p1) [⟨.Name y p2, .Call (.Name x p) (e :: es) [] pos2, [], 0⟩] scope pos) 0 (.ref a) (.ref D) ce) (compPost (model X.prog X.w) X.A X.xe use Qf (.ref D) C) s4 := by
    obtain ⟨Pd, hPd⟩ : ∃ Pd : Nat → Shared → Prop, Pd = fun n s' => ∃ gs H', s'.gens[g]? = some gs ∧ gs.Goes (model X.prog X.w) X.A.in1 (End3 X.prog X.w X.stack s1.heap.objs.size Dl QQ (fun _ _ _ => False) a g) (GY3 X.prog X.w X.base X.stack [(a, go)] s1.heap.objs.size Dl) n (.send .none) (s'.setGen g .running) ∧ s'.heap.get? a = some go ∧ Inv X pins σ H' s' := ⟨_, rfl⟩
    refine compLoop_any Pd ?_ sizeLine ?_
    · intro n s3 hh
      rw [hPd] at hh
      obtain ⟨gs, H3, hgs3, hgoes, hgo3, I3⟩ := hh
      have hgl3 : g < s3.gens.size := (Array.getElem?_eq_some_iff.mp hgs3).1
      have hcd : ∃ nm qn, go.cls = .type "generator" ∧ go.data = .fields #[.int g 0, nm, qn] := by
        obtain ⟨o, nm, qn, ho, hc, hd, _⟩ := isg _ hgo
        rw [hgo] at ho; cases ho
        exact ⟨nm, qn, hc, hd⟩
      obtain ⟨nm, qn, hgc, hgd⟩ := hcd
      refine wpAny_gsz (n := g + 1) hgl3 (next_genG (A := X.A) (I3.ok.hd hc) I3.nolimit room.depth (isg _ hgo3) hgs3 hgoes (fun v s5 gs' hbare hv => ?_) (fun s5 hf h' hk' => ?_) fun er s5 her => ?_)
      · obtain ⟨ys, x1, HE, H4, mine, hn, rv, hcs, hz, un, os5, ag5, hok5, hpn, hz5, hcp, yd, hmine, hmad, wakes⟩ := hv
        intro hsz
        have hcs2 : Inv X pins σ HE (s3.setGen g .running) ∧ (∃ m, (s3.setGen g .running).heap.Ns C m) ∧ ∃ its n, (s3.setGen g .running).heap.get? D = some { cls := .type "list", data := .seq (its : List Value).toArray n } ∧ Vals ys its ∧ ys.length ≤ sizeLine := by subst hDl; exact hcs
        obtain ⟨IE, ⟨m, hnC⟩, its, nn, hlD, hvs, hlen0⟩ := hcs2
        have hsz5 : g < s5.gens.size := by
          have z : (s5.setGen g gs').gens.size = s5.gens.size := setGen_size _ _ _
          have z2 : g + 1 ≤ (s5.setGen g gs').gens.size := hsz
          omega
        have pin : ∀ b ∈ [C, D], ∀ o, (s3.setGen g .running).heap.get? b = some o → s5.heap.get? b = some o ∧ H4 b = none := fun b hb o eo => hcp (b, o) (by subst hDl; exact mem_pinsAt hb eo)
        have hnC5 : s5.heap.Ns C m := hnC.at' fun o eo => (pin C List.mem_cons_self o eo).1
        obtain ⟨hlD5, nD4⟩ := pin D (List.mem_cons_of_mem _ List.mem_cons_self) _ hlD
        have nC4 : H4 C = none := by
          obtain ⟨o, _, _, ho, _⟩ := hnC
          exact (pin C List.mem_cons_self o ho).2
        have I5 : Inv X pins σ H4 (s5.setGen g gs') := (IE.stretch L un hok5 os5 ag5).gensTo (allBare_setGen ag5 hbare)
        have hgo5 : s5.heap.get? a = some go := (hpn _ (List.mem_singleton.mpr rfl)).1
        refine go_of (s := s5.setGen g gs') hgo5 hgc hgd (by decide) ?_
        refine wpAny_assign_Name (wpAny_storeName_local cY (m := m) (by rw [cL]; exact hnC5) (fun h6 hn6 hb6 => ?_) cP)
        rw [cL] at hn6 hb6
        refine wpAny_tests_nil ?_
        rw [if_pos rfl]
        refine wpAny_Name (wpAny_loadName_local cK cY (m := fun z => if z = y then some v else m z) (by rw [cL]; exact hn6) (if_pos rfl) ?_) hdy
        have hlD6 : h6.get? D = some { cls := .type "list", data := .seq its.toArray nn } := (hb6.2 D hDC).trans hlD5
        have hlen := hvs.length
        refine append_at hlD6 (fun h7 hb7 hl7 => ?_) (by rw [List.size_toArray]; omega)
        have keep : ∀ b o, b ∉ [C, D] → s5.heap.get? b = some o → h7.get? b = some o := fun b o hb eo => by
          simp only [List.mem_cons, List.not_mem_nil, or_false, not_or] at hb
          exact (hb7.2 b hb.2).trans ((hb6.2 b hb.1).trans eo)
        have I7 : Inv X pins σ H4 { s5.setGen g gs' with heap := h7, toks := s5.toks + 1 } := I5.far L rfl I5.bare (ch := [C, D]) (fun b hb => by rcases hCD hb with rfl | rfl; exact ⟨nC, nC4⟩; exact ⟨nD, nD4⟩) keep
        have haC : a ∉ [C, D] := fun hb => by
          rcases hCD hb with z | z
          · rw [z, ← hC] at ha2; exact absurd (Nat.lt_trans ha2 (Nat.lt_succ_self _)) (Nat.lt_irrefl _)
          · rw [z, ← hD] at ha2; exact absurd ha2 (Nat.lt_irrefl _)
        have hnC7 : h7.Ns C fun z => if z = y then some v else m z := hn6.sameBut hb7 (Ne.symm hDC)
        obtain ⟨s7, hs7⟩ : ∃ s7 : Shared, s7 = { s5.setGen g gs' with heap := h7, toks := s5.toks + 1 } := ⟨_, rfl⟩
        have hp7 : s7.heap = h7 := by rw [hs7]
        have gn7 : s7.gens = (s5.setGen g gs').gens := by rw [hs7]
        rw [← hs7] at I7
        have I7r : Inv X pins σ H4 (s7.setGen g .running) := I7.gensTo (allBare_setGen I7.bare rfl)
        have hgs7 : s7.gens[g]? = some gs' := by rw [gn7]; exact setGen_at hsz5
        have hn7 : (s7.setGen g .running).heap.Ns C fun z => if z = y then some v else m z := by show s7.heap.Ns C _; rw [hp7]; exact hnC7
        have hl7' : (s7.setGen g .running).heap.get? D = some { cls := .type "list", data := .seq (its ++ [v]).toArray (nn + 1) } := by
          show s7.heap.get? D = _
          rw [hp7, hl7]
          simp
        have hz7 : s1.heap.objs.size ≤ (s7.setGen g .running).heap.objs.size := Nat.le_trans nC (Nat.le_of_lt hn7.lt)
        have wk := wakes H4 (s7.setGen g .running) (mkWk I7r hz7 nC4 nD4 hn7 hl7') (by subst hDl; exact ⟨I7r, ⟨_, hn7⟩, _, _, hl7', hvs.append (.cons rv .nil), by rw [List.length_append, List.length_singleton]; omega⟩) (fun b mb o eb => ⟨(by show s7.heap.get? b = _; rw [hp7]; exact keep b o (fun z => hmad b mb (by subst hDl; exact z)) eb), (hmine b mb).1⟩) (by subst hDl; exact ⟨rfl, yd⟩)
        cases n with
        | zero => exact False.elim wk
        | succ q =>
          have fin : Pd q s7 := by
            rw [hPd]
            exact ⟨gs', H4, hgs7, wk, by rw [hp7]; exact keep a go haC hgo5, I7⟩
          rw [hs7] at fin
          exact ⟨q, Nat.lt_succ_self q, fin⟩
      · obtain ⟨ys, HE, H4, hcs, hz, os5, ag5, un, hok5, hcp, hQ⟩ := hf
        intro _
        have hcs2 : Inv X pins σ HE (s3.setGen g .running) ∧ (∃ m, (s3.setGen g .running).heap.Ns C m) ∧ ∃ its n, (s3.setGen g .running).heap.get? D = some { cls := .type "list", data := .seq (its : List Value).toArray n } ∧ Vals ys its ∧ ys.length ≤ sizeLine := by subst hDl; exact hcs
        obtain ⟨IE, ⟨m, hnC⟩, its, nn, hlD, hvs, hlen0⟩ := hcs2
        have pin : ∀ b ∈ [C, D], ∀ o, (s3.setGen g .running).heap.get? b = some o → s5.heap.get? b = some o ∧ H4 b = none := fun b hb o eo => hcp (b, o) (by subst hDl; exact mem_pinsAt hb eo)
        have hnC5 : s5.heap.Ns C m := hnC.at' fun o eo => (pin C List.mem_cons_self o eo).1
        obtain ⟨hlD5, nD4⟩ := pin D (List.mem_cons_of_mem _ List.mem_cons_self) _ hlD
        have nC4 : H4 C = none := by
          obtain ⟨o, _, _, ho, _⟩ := hnC
          exact (pin C List.mem_cons_self o ho).2
        have I5 : Inv X pins σ H4 (s5.setGen g .finished) := (IE.stretch L un hok5 os5 ag5).gensTo (allBare_setGen ag5 rfl)
        have I6 : Inv X pins σ H4 { s5.setGen g .finished with heap := h' } := I5.call' (ch := []) rfl (Un.kept hk') (I5.hok.kept hk') I5.bare fun _ z => nomatch z
        have I7 := I6.track L nD nD4 hlen0 (hk' _ _ hlD5) hvs
        refine hRR D C _ m _ I7 ?_ (hnC5.keeps hk') ?_
        · rw [hQQ] at hQ
          exact hQ D (I1.hok.fresh nD) nD4
        · obtain ⟨t1, t2, t3, t4⟩ := L.apart nC
          exact ⟨by rw [upd_ne (Ne.symm hDC)]; exact nC4, t2, fun z => I1.nofs nC z, t1, t3, t4⟩
      · obtain ⟨ys, HE, sE, hcs, hz, cx, hge⟩ := her
        obtain ⟨_, _, _, _, _, _, _, _, _, _, _, _, hE⟩ := cx
        exact hE.elim
    · rw [hPd]
      refine ⟨.fresh c, H1, by rw [gn4]; exact hgs, ⟨rfl, ?_⟩, go4, I4⟩
      refine wake X.A.in1 (s4.setGen g .running) Dl QQ hA room.in1 I1.ok.frames kp (os4.trans hos) (allBare_setGen hba4 rfl) (fun b hb => ?_) ?_
      · refine ⟨?_, adAt (HE := H1) (sE := s4.setGen g .running) nsC lD b hb⟩
        subst hDl
        rcases hCD hb with rfl | rfl
        · rw [← hC]; exact Nat.le_succ _
        · rw [← hD]; exact Nat.le_refl _
      · subst hDl
        exact ⟨I4.gensTo (allBare_setGen hba4 rfl), ⟨_, nsC⟩, [], 0, lD, .nil, Nat.zero_le _⟩
  exact codeAny_compStart_list loop (wpAny_pyIter_gen (isg _ go4) loop)
end
section
variable {X : Cx} {k : Nat} {ps : List Str} {sp : SpG3} {x y : Str} {p p1 p2 pos pos2 : Pos} {e : Expr} {es : List Expr} {ta : TA} {scope : Scope} {own : List (Str × Nat)}
/-- as a value -/
theorem pe_lcY (hc : X.calm = true) (O : OwnG3 X.prog X.w X.K X.mg X.base x k ps sp) (room : Room (k + 1) X.A) (ha : PA X (e :: es) ta) (ok : BlkOk X.N X.env.scope scope own) (hy : scope.names.lookup y = some .local) (hgl : Gl X x := by rfl) (hdb : (x == ("__debug__" : Str)) = false := by decide) (hdy : (y == ("__debug__" : Str)) = false := by decide)
    (he : starEach (e :: es) X.env = (false, eval e X.env) :: starEach es X.env := by rfl) (hpl : (backTo pos2 (starEach es X.env)).any (·.1) = false := by rfl) (hs : ∀ z, foldedSetIterable (.Call (.Name x p) (e :: es) [] pos2) X.env z = pure z := by intro _; rfl) :
    PE X (.ListComp (.Name y p1) [⟨.Name y p2, .Call (.Name x p) (e :: es) [] pos2, [], 0⟩] scope pos) (tLcY sp ta) := by
  refine ⟨fun pins s σ H Q I h => ?_⟩
  rw [eval_ListComp]
  refine lcY_core hc I O room ha ok.kind ok.free (fun y hy e => by rw [ok.uniq y hy, e]) hy hgl hdb hdy he hpl hs h fun D C s' m H' I' q hn f => ⟨m, hn, fun h'' sb => ?_⟩
  obtain ⟨f0, f1, f2, f3, f4, f5⟩ := f
  exact ⟨.ref D, H', I'.turned (t' := s'.toks) (fun b o hb e => (sb.2 b hb).trans e) f0 f1 f3 f4 f5, rfl, q⟩
end
end L2

set_option Elab.async false
set_option maxRecDepth 100000
set_option maxHeartbeats 4000000
namespace K08
open PySem PySem.Spec PyProof.Rows L2
def top (i : Nat) : Stmt := PySem.Challenge.pw_wholeline_k70_whole_rooms_of_lines.main.body.getD i (.Pass ⟨0, 0, 0, 0⟩)
abbrev s_BadPart_init : Stmt := inClass (top 3) 0
abbrev nm_BadPart_init : List Str := ["self", "part"]
abbrev pm_BadPart_init : List Str := ["self", "part"]
theorem sc_BadPart_init : FnScope nm_BadPart_init pm_BadPart_init (defScope s_BadPart_init) := ⟨rfl, rfl, rfl, by decide +kernel, rfl, by decide +kernel, by decide +kernel⟩

abbrev s_BadNumber_init : Stmt := inClass (top 4) 0
abbrev nm_BadNumber_init : List Str := ["self", "number"]
abbrev pm_BadNumber_init : List Str := ["self", "number"]
theorem sc_BadNumber_init : FnScope nm_BadNumber_init pm_BadNumber_init (defScope s_BadNumber_init) := ⟨rfl, rfl, rfl, by decide +kernel, rfl, by decide +kernel, by decide +kernel⟩

abbrev s_BadSteps_init : Stmt := inClass (top 5) 0
abbrev nm_BadSteps_init : List Str := ["self", "index"]
abbrev pm_BadSteps_init : List Str := ["self", "index"]
theorem sc_BadSteps_init : FnScope nm_BadSteps_init pm_BadSteps_init (defScope s_BadSteps_init) := ⟨rfl, rfl, rfl, by decide +kernel, rfl, by decide +kernel, by decide +kernel⟩

abbrev s_BadPiece_init : Stmt := inClass (top 6) 0
abbrev nm_BadPiece_init : List Str := ["self", "index"]
abbrev pm_BadPiece_init : List Str := ["self", "index"]
theorem sc_BadPiece_init : FnScope nm_BadPiece_init pm_BadPiece_init (defScope s_BadPiece_init) := ⟨rfl, rfl, rfl, by decide +kernel, rfl, by decide +kernel, by decide +kernel⟩

abbrev s_TooMany_init : Stmt := inClass (top 7) 0
abbrev nm_TooMany_init : List Str := ["self", "limit"]
abbrev pm_TooMany_init : List Str := ["self", "limit"]
theorem sc_TooMany_init : FnScope nm_TooMany_init pm_TooMany_init (defScope s_TooMany_init) := ⟨rfl, rfl, rfl, by decide +kernel, rfl, by decide +kernel, by decide +kernel⟩

abbrev s_is_integer : Stmt := top 9
abbrev nm_is_integer : List Str := ["value"]
abbrev pm_is_integer : List Str := ["value"]
theorem sc_is_integer : FnScope nm_is_integer pm_is_integer (defScope s_is_integer) := ⟨rfl, rfl, rfl, by decide +kernel, rfl, by decide +kernel, by decide +kernel⟩

abbrev s_is_between : Stmt := top 10
abbrev nm_is_between : List Str := ["value", "low", "high"]
abbrev pm_is_between : List Str := ["value", "low", "high"]
theorem sc_is_between : FnScope nm_is_between pm_is_between (defScope s_is_between) := ⟨rfl, rfl, rfl, by decide +kernel, rfl, by decide +kernel, by decide +kernel⟩

abbrev s_is_list : Stmt := top 11
abbrev nm_is_list : List Str := ["value"]
abbrev pm_is_list : List Str := ["value"]
theorem sc_is_list : FnScope nm_is_list pm_is_list (defScope s_is_list) := ⟨rfl, rfl, rfl, by decide +kernel, rfl, by decide +kernel, by decide +kernel⟩

abbrev s_is_list_of : Stmt := top 12
abbrev nm_is_list_of : List Str := ["value", "low", "high"]
abbrev pm_is_list_of : List Str := ["value", "low", "high"]
theorem sc_is_list_of : FnScope nm_is_list_of pm_is_list_of (defScope s_is_list_of) := ⟨rfl, rfl, rfl, by decide +kernel, rfl, by decide +kernel, by decide +kernel⟩

abbrev s_lesser : Stmt := top 13
abbrev nm_lesser : List Str := ["one", "other"]
abbrev pm_lesser : List Str := ["one", "other"]
theorem sc_lesser : FnScope nm_lesser pm_lesser (defScope s_lesser) := ⟨rfl, rfl, rfl, by decide +kernel, rfl, by decide +kernel, by decide +kernel⟩

abbrev s_told_of : Stmt := top 18
abbrev nm_told_of : List Str := ["bounds", "free", "bound"]
abbrev pm_told_of : List Str := ["bounds", "free"]
theorem sc_told_of : FnScope nm_told_of pm_told_of (defScope s_told_of) := ⟨rfl, rfl, rfl, by decide +kernel, rfl, by decide +kernel, by decide +kernel⟩

abbrev s_are_under : Stmt := top 19
abbrev nm_are_under : List Str := ["bounds", "others", "free"]
abbrev pm_are_under : List Str := ["bounds", "others"]
theorem sc_are_under : FnScope nm_are_under pm_are_under (defScope s_are_under) := ⟨rfl, rfl, rfl, by decide +kernel, rfl, by decide +kernel, by decide +kernel⟩

abbrev s_Steps_init : Stmt := inClass (top 20) 0
abbrev nm_Steps_init : List Str := ["self", "bounds", "index", "bound"]
abbrev pm_Steps_init : List Str := ["self", "bounds"]
theorem sc_Steps_init : FnScope nm_Steps_init pm_Steps_init (defScope s_Steps_init) := ⟨rfl, rfl, rfl, by decide +kernel, rfl, by decide +kernel, by decide +kernel⟩

abbrev s_Steps_call : Stmt := inClass (top 20) 1
abbrev nm_Steps_call : List Str := ["self", "free"]
abbrev pm_Steps_call : List Str := ["self", "free"]
theorem sc_Steps_call : FnScope nm_Steps_call pm_Steps_call (defScope s_Steps_call) := ⟨rfl, rfl, rfl, by decide +kernel, rfl, by decide +kernel, by decide +kernel⟩

abbrev s_Steps_len : Stmt := inClass (top 20) 2
abbrev nm_Steps_len : List Str := ["self"]
abbrev pm_Steps_len : List Str := ["self"]
theorem sc_Steps_len : FnScope nm_Steps_len pm_Steps_len (defScope s_Steps_len) := ⟨rfl, rfl, rfl, by decide +kernel, rfl, by decide +kernel, by decide +kernel⟩

abbrev s_Steps_contains : Stmt := inClass (top 20) 3
abbrev nm_Steps_contains : List Str := ["self", "bound"]
abbrev pm_Steps_contains : List Str := ["self", "bound"]
theorem sc_Steps_contains : FnScope nm_Steps_contains pm_Steps_contains (defScope s_Steps_contains) := ⟨rfl, rfl, rfl, by decide +kernel, rfl, by decide +kernel, by decide +kernel⟩

abbrev s_Steps_le : Stmt := inClass (top 20) 4
abbrev nm_Steps_le : List Str := ["self", "other"]
abbrev pm_Steps_le : List Str := ["self", "other"]
theorem sc_Steps_le : FnScope nm_Steps_le pm_Steps_le (defScope s_Steps_le) := ⟨rfl, rfl, rfl, by decide +kernel, rfl, by decide +kernel, by decide +kernel⟩

abbrev s_Steps_add : Stmt := inClass (top 20) 5
abbrev nm_Steps_add : List Str := ["self", "bound", "told"]
abbrev pm_Steps_add : List Str := ["self", "bound"]
theorem sc_Steps_add : FnScope nm_Steps_add pm_Steps_add (defScope s_Steps_add) := ⟨rfl, rfl, rfl, by decide +kernel, rfl, by decide +kernel, by decide +kernel⟩

abbrev s_Steps_eq : Stmt := inClass (top 20) 6
abbrev nm_Steps_eq : List Str := ["self", "other"]
abbrev pm_Steps_eq : List Str := ["self", "other"]
theorem sc_Steps_eq : FnScope nm_Steps_eq pm_Steps_eq (defScope s_Steps_eq) := ⟨rfl, rfl, rfl, by decide +kernel, rfl, by decide +kernel, by decide +kernel⟩

abbrev s_check_cap : Stmt := top 21
abbrev nm_check_cap : List Str := ["cap"]
abbrev pm_check_cap : List Str := ["cap"]
theorem sc_check_cap : FnScope nm_check_cap pm_check_cap (defScope s_check_cap) := ⟨rfl, rfl, rfl, by decide +kernel, rfl, by decide +kernel, by decide +kernel⟩

abbrev s_Room_init : Stmt := inClass (top 22) 0
abbrev nm_Room_init : List Str := ["self", "size", "steps"]
abbrev pm_Room_init : List Str := ["self", "size", "steps"]
theorem sc_Room_init : FnScope nm_Room_init pm_Room_init (defScope s_Room_init) := ⟨rfl, rfl, rfl, by decide +kernel, rfl, by decide +kernel, by decide +kernel⟩

abbrev s_Room_told : Stmt := inClass (top 22) 1
abbrev nm_Room_told : List Str := ["self", "held"]
abbrev pm_Room_told : List Str := ["self", "held"]
theorem sc_Room_told : FnScope nm_Room_told pm_Room_told (defScope s_Room_told) := ⟨rfl, rfl, rfl, by decide +kernel, rfl, by decide +kernel, by decide +kernel⟩

abbrev s_Room_reach : Stmt := inClass (top 22) 2
abbrev nm_Room_reach : List Str := ["self", "held", "cap", "told"]
abbrev pm_Room_reach : List Str := ["self", "held", "cap"]
theorem sc_Room_reach : FnScope nm_Room_reach pm_Room_reach (defScope s_Room_reach) := ⟨rfl, rfl, rfl, by decide +kernel, rfl, by decide +kernel, by decide +kernel⟩

abbrev s_Room_top : Stmt := inClass (top 22) 3
abbrev nm_Room_top : List Str := ["self", "cap", "least"]
abbrev pm_Room_top : List Str := ["self", "cap"]
theorem sc_Room_top : FnScope nm_Room_top pm_Room_top (defScope s_Room_top) := ⟨rfl, rfl, rfl, by decide +kernel, rfl, by decide +kernel, by decide +kernel⟩

abbrev s_Room_le : Stmt := inClass (top 22) 4
abbrev nm_Room_le : List Str := ["self", "other"]
abbrev pm_Room_le : List Str := ["self", "other"]
theorem sc_Room_le : FnScope nm_Room_le pm_Room_le (defScope s_Room_le) := ⟨rfl, rfl, rfl, by decide +kernel, rfl, by decide +kernel, by decide +kernel⟩

abbrev s_Room_eq : Stmt := inClass (top 22) 5
abbrev nm_Room_eq : List Str := ["self", "other"]
abbrev pm_Room_eq : List Str := ["self", "other"]
theorem sc_Room_eq : FnScope nm_Room_eq pm_Room_eq (defScope s_Room_eq) := ⟨rfl, rfl, rfl, by decide +kernel, rfl, by decide +kernel, by decide +kernel⟩

abbrev s_check_room : Stmt := top 25
abbrev nm_check_room : List Str := ["room"]
abbrev pm_check_room : List Str := ["room"]
theorem sc_check_room : FnScope nm_check_room pm_check_room (defScope s_check_room) := ⟨rfl, rfl, rfl, by decide +kernel, rfl, by decide +kernel, by decide +kernel⟩

abbrev s_check_length : Stmt := top 26
abbrev nm_check_length : List Str := ["length"]
abbrev pm_check_length : List Str := ["length"]
theorem sc_check_length : FnScope nm_check_length pm_check_length (defScope s_check_length) := ⟨rfl, rfl, rfl, by decide +kernel, rfl, by decide +kernel, by decide +kernel⟩

abbrev s_check_goods : Stmt := top 27
abbrev nm_check_goods : List Str := ["room", "cap", "length"]
abbrev pm_check_goods : List Str := ["room", "cap", "length"]
theorem sc_check_goods : FnScope nm_check_goods pm_check_goods (defScope s_check_goods) := ⟨rfl, rfl, rfl, by decide +kernel, rfl, by decide +kernel, by decide +kernel⟩

abbrev s_goes : Stmt := top 28
abbrev nm_goes : List Str := ["room", "cap", "length"]
abbrev pm_goes : List Str := ["room", "cap", "length"]
theorem sc_goes : FnScope nm_goes pm_goes (defScope s_goes) := ⟨rfl, rfl, rfl, by decide +kernel, rfl, by decide +kernel, by decide +kernel⟩

abbrev s_reaches_of : Stmt := top 29
abbrev nm_reaches_of : List Str := ["room", "cap", "held"]
abbrev pm_reaches_of : List Str := ["room", "cap"]
theorem sc_reaches_of : FnScope nm_reaches_of pm_reaches_of (defScope s_reaches_of) := ⟨rfl, rfl, rfl, by decide +kernel, rfl, by decide +kernel, by decide +kernel⟩

abbrev s_told_cut : Stmt := top 31
abbrev nm_told_cut : List Str := ["room", "cap", "length", "cut"]
abbrev pm_told_cut : List Str := ["room", "cap", "length"]
theorem sc_told_cut : FnScope nm_told_cut pm_told_cut (defScope s_told_cut) := ⟨rfl, rfl, rfl, by decide +kernel, rfl, by decide +kernel, by decide +kernel⟩

abbrev s_cuts : Stmt := top 32
abbrev nm_cuts : List Str := ["room", "cap", "length", "reaches", "needs", "waiting", "held", "pieces", "piece"]
abbrev pm_cuts : List Str := ["room", "cap", "length"]
theorem sc_cuts : GScope nm_cuts pm_cuts (defScope s_cuts) := ⟨rfl, rfl, rfl, by decide +kernel, rfl, by decide +kernel, by decide +kernel⟩

abbrev s_needs_of : Stmt := top 33
abbrev nm_needs_of : List Str := ["reaches", "length", "needs", "held", "behind", "need"]
abbrev pm_needs_of : List Str := ["reaches", "length"]
theorem sc_needs_of : FnScope nm_needs_of pm_needs_of (defScope s_needs_of) := ⟨rfl, rfl, rfl, by decide +kernel, rfl, by decide +kernel, by decide +kernel⟩

abbrev s_next_pieces : Stmt := top 34
abbrev nm_next_pieces : List Str := ["reaches", "needs", "held", "behind", "piece", "need"]
abbrev pm_next_pieces : List Str := ["reaches", "needs", "held"]
theorem sc_next_pieces : FnScope nm_next_pieces pm_next_pieces (defScope s_next_pieces) := ⟨rfl, rfl, rfl, by decide +kernel, rfl, by decide +kernel, by decide +kernel⟩

abbrev s_filled : Stmt := top 35
abbrev nm_filled : List Str := ["room", "pieces", "held", "index", "piece"]
abbrev pm_filled : List Str := ["room", "pieces"]
theorem sc_filled : GScope nm_filled pm_filled (defScope s_filled) := ⟨rfl, rfl, rfl, by decide +kernel, rfl, by decide +kernel, by decide +kernel⟩

abbrev s__law_start : Stmt := top 37
abbrev nm__law_start : List Str := ["_law_script", "_law_first_here"]
abbrev pm__law_start : List Str := ["_law_script"]
theorem sc__law_start : FnScope nm__law_start pm__law_start (defScope s__law_start) := ⟨rfl, rfl, rfl, by decide +kernel, rfl, by decide +kernel, by decide +kernel⟩

abbrev s__law_draw : Stmt := top 38
abbrev nm__law_draw : List Str := ["_law_script", "_law_state", "_law_limit", "_law_number", "_law_cell", "_law_mixed"]
abbrev pm__law_draw : List Str := ["_law_script", "_law_state", "_law_limit"]
theorem sc__law_draw : FnScope nm__law_draw pm__law_draw (defScope s__law_draw) := ⟨rfl, rfl, rfl, by decide +kernel, rfl, by decide +kernel, by decide +kernel⟩

abbrev s__law_rising : Stmt := top 39
abbrev nm__law_rising : List Str := ["_law_script", "_law_state", "_law_most", "_law_top", "_law_found", "_law_k"]
abbrev pm__law_rising : List Str := ["_law_script", "_law_state", "_law_most", "_law_top"]
theorem sc__law_rising : FnScope nm__law_rising pm__law_rising (defScope s__law_rising) := ⟨rfl, rfl, rfl, by decide +kernel, rfl, by decide +kernel, by decide +kernel⟩

abbrev s__law_told : Stmt := top 40
abbrev nm__law_told : List Str := ["_law_bounds", "_law_free", "_law_told_here", "_law_bound"]
abbrev pm__law_told : List Str := ["_law_bounds", "_law_free"]
theorem sc__law_told : FnScope nm__law_told pm__law_told (defScope s__law_told) := ⟨rfl, rfl, rfl, by decide +kernel, rfl, by decide +kernel, by decide +kernel⟩

abbrev s__law_cuts : Stmt := top 41
abbrev nm__law_cuts : List Str := ["_law_parts", "_law_held", "_law_length", "_law_left", "_law_size", "_law_bounds", "_law_cap", "_law_found", "_law_most", "_law_piece", "_law_rests"]
abbrev pm__law_cuts : List Str := ["_law_parts", "_law_held", "_law_length", "_law_left"]
theorem sc__law_cuts : FnScope nm__law_cuts pm__law_cuts (defScope s__law_cuts) := ⟨rfl, rfl, rfl, by decide +kernel, rfl, by decide +kernel, by decide +kernel⟩

abbrev s__law_first : Stmt := top 42
abbrev nm__law_first : List Str := ["_law_parts", "_law_length", "_law_many", "_law_found"]
abbrev pm__law_first : List Str := ["_law_parts", "_law_length"]
theorem sc__law_first : FnScope nm__law_first pm__law_first (defScope s__law_first) := ⟨rfl, rfl, rfl, by decide +kernel, rfl, by decide +kernel, by decide +kernel⟩

abbrev s__law_rows : Stmt := top 43
abbrev nm__law_rows : List Str := ["_law_parts", "_law_cut", "_law_held", "_law_rows_here", "_law_piece"]
abbrev pm__law_rows : List Str := ["_law_parts", "_law_cut"]
theorem sc__law_rows : FnScope nm__law_rows pm__law_rows (defScope s__law_rows) := ⟨rfl, rfl, rfl, by decide +kernel, rfl, by decide +kernel, by decide +kernel⟩

abbrev s_law : Stmt := top 44
abbrev nm_law : List Str := ["_law_script", "_law_state", "_law_bounds", "_law_parts", "_law_room", "_law_length", "_law_due", "_law_greater", "_law_finer", "_law_others", "_law_row", "_law_one"]
abbrev pm_law : List Str := ["_law_script"]
theorem sc_law : FnScope nm_law pm_law (defScope s_law) := ⟨rfl, rfl, rfl, by decide +kernel, rfl, by decide +kernel, by decide +kernel⟩

structure Ad where
  (BadPart BadNumber BadSteps BadPiece TooMany WholeError Steps Room : Addr)
structure Txt (K : PySem.W.Frag) (mg : Str → Option Value) (A : Ad) : Prop where
  n_isinstance : mg "isinstance" = none
  n_int : mg "int" = none
  n_bool : mg "bool" = none
  n_list : mg "list" = none
  n_tuple : mg "tuple" = none
  n_len : mg "len" = none
  n_range : mg "range" = none
  n_max : mg "max" = none
  n_min : mg "min" = none
  n_abs : mg "abs" = none
  n_enumerate : mg "enumerate" = none
  n_all : mg "all" = none
  n_sorted : mg "sorted" = none
  n_reversed : mg "reversed" = none
  g_MOST_BOUNDS : ∃ t, mg "MOST_BOUNDS" = some (.int 4 t)
  g_MOST_UNITS : ∃ t, mg "MOST_UNITS" = some (.int 60 t)
  g_MOST_CAP : ∃ t, mg "MOST_CAP" = some (.int 99 t)
  g_MOST_LENGTH : ∃ t, mg "MOST_LENGTH" = some (.int 99 t)
  Steps : ClsX K mg "Steps" A.Steps
  s_bounds : NoAttr K A.Steps "bounds"
  Room : ClsX K mg "Room" A.Room
  r_size : NoAttr K A.Room "size"
  r_steps : NoAttr K A.Room "steps"
  BadPart : XAt K mg "BadPart" "part" A.BadPart s_BadPart_init "BadPart.__init__"
  BadNumber : XAt K mg "BadNumber" "number" A.BadNumber s_BadNumber_init "BadNumber.__init__"
  BadSteps : XAt K mg "BadSteps" "index" A.BadSteps s_BadSteps_init "BadSteps.__init__"
  BadPiece : XAt K mg "BadPiece" "index" A.BadPiece s_BadPiece_init "BadPiece.__init__"
  x_qq : PySem.W.exmOne K (.ref A.BadPiece) (.ref A.BadPiece) = some true
  x_pq : PySem.W.exmOne K (.ref A.BadPart) (.ref A.BadPiece) = some false
  ns_BadPiece : PySem.W.subIn K (.ref A.BadPiece) (.type "StopIteration") = some false
  ns_BadPart : PySem.W.subIn K (.ref A.BadPart) (.type "StopIteration") = some false
  TooMany : XOt K mg "TooMany" "limit" A.TooMany s_TooMany_init "TooMany.__init__"
  x_ss : PySem.W.exmOne K (.ref A.BadSteps) (.ref A.BadSteps) = some true
  x_ns : PySem.W.exmOne K (.ref A.BadNumber) (.ref A.BadSteps) = some false
  x_nn : PySem.W.exmOne K (.ref A.BadNumber) (.ref A.BadNumber) = some true
  x_ps : PySem.W.exmOne K (.ref A.BadPart) (.ref A.BadSteps) = some false
  x_pn : PySem.W.exmOne K (.ref A.BadPart) (.ref A.BadNumber) = some false
  x_pp : PySem.W.exmOne K (.ref A.BadPart) (.ref A.BadPart) = some true
  x_ms : PySem.W.exmOne K (.ref A.TooMany) (.ref A.BadSteps) = some false
  x_mn : PySem.W.exmOne K (.ref A.TooMany) (.ref A.BadNumber) = some false
  x_mp : PySem.W.exmOne K (.ref A.TooMany) (.ref A.BadPart) = some false
  x_mm : PySem.W.exmOne K (.ref A.TooMany) (.ref A.TooMany) = some true
  self_Steps : PySem.W.selfFirst K A.Steps = true
  radd_Steps : PySem.W.findIn K (.ref A.Steps) "__radd__" = some none
  c_Steps : ∀ g, PySem.W.findIn K (.ref A.Steps) "__call__" = some (some (.ref g)) → PySem.W.fnIn K g = true
section
variable {P : Program} {w : World} {K : PySem.W.Frag} {mg : Str → Option Value} {base : Heap} {A : Ad}
theorem Txt.addM (T : Txt K mg A) : AddM K A.Steps := ⟨T.self_Steps, T.radd_Steps, sub_ty_ref (by decide +kernel), sub_ty_ref (by decide +kernel), sub_ty_ref (by decide +kernel)⟩
theorem ok_x_BadPart {f : Addr} {fd : FuncData} (F : Fun K "__init__" "BadPart.__init__" s_BadPart_init f fd) (T : Txt K mg A) : FnOk P w K mg base CX0 1 f fd ["self", "part"] (spXI A.BadPart "part") := by
  refine F.ok sc_BadPart_init (fun vs H Q E h => ?_) (fun cdv A' outer s H vs Q E hr h => ?_)
  · obtain ⟨a, y, rfl, _⟩ := h
    rfl
  · obtain ⟨a, y, rfl, ha, q⟩ := h
    refine ⟨_, pss_one (ps_ost (pv 0) (pv 1)), ?_⟩
    exact ⟨_, rfl, _, rfl, a, A.BadPart, rfl, T.BadPart.ox, T.BadPart.noA, .inl ⟨ha, fun dx h1 h2 => q dx h1 h2⟩⟩
theorem ok_x_BadNumber {f : Addr} {fd : FuncData} (F : Fun K "__init__" "BadNumber.__init__" s_BadNumber_init f fd) (T : Txt K mg A) : FnOk P w K mg base CX0 1 f fd ["self", "number"] (spXI A.BadNumber "number") := by
  refine F.ok sc_BadNumber_init (fun vs H Q E h => ?_) (fun cdv A' outer s H vs Q E hr h => ?_)
  · obtain ⟨a, y, rfl, _⟩ := h
    rfl
  · obtain ⟨a, y, rfl, ha, q⟩ := h
    refine ⟨_, pss_one (ps_ost (pv 0) (pv 1)), ?_⟩
    exact ⟨_, rfl, _, rfl, a, A.BadNumber, rfl, T.BadNumber.ox, T.BadNumber.noA, .inl ⟨ha, fun dx h1 h2 => q dx h1 h2⟩⟩
theorem ok_x_BadSteps {f : Addr} {fd : FuncData} (F : Fun K "__init__" "BadSteps.__init__" s_BadSteps_init f fd) (T : Txt K mg A) : FnOk P w K mg base CX0 1 f fd ["self", "index"] (spXI A.BadSteps "index") := by
  refine F.ok sc_BadSteps_init (fun vs H Q E h => ?_) (fun cdv A' outer s H vs Q E hr h => ?_)
  · obtain ⟨a, y, rfl, _⟩ := h
    rfl
  · obtain ⟨a, y, rfl, ha, q⟩ := h
    refine ⟨_, pss_one (ps_ost (pv 0) (pv 1)), ?_⟩
    exact ⟨_, rfl, _, rfl, a, A.BadSteps, rfl, T.BadSteps.ox, T.BadSteps.noA, .inl ⟨ha, fun dx h1 h2 => q dx h1 h2⟩⟩
theorem ok_x_BadPiece {f : Addr} {fd : FuncData} (F : Fun K "__init__" "BadPiece.__init__" s_BadPiece_init f fd) (T : Txt K mg A) : FnOk P w K mg base CX0 1 f fd ["self", "index"] (spXI A.BadPiece "index") := by
  refine F.ok sc_BadPiece_init (fun vs H Q E h => ?_) (fun cdv A' outer s H vs Q E hr h => ?_)
  · obtain ⟨a, y, rfl, _⟩ := h
    rfl
  · obtain ⟨a, y, rfl, ha, q⟩ := h
    refine ⟨_, pss_one (ps_ost (pv 0) (pv 1)), ?_⟩
    exact ⟨_, rfl, _, rfl, a, A.BadPiece, rfl, T.BadPiece.ox, T.BadPiece.noA, .inl ⟨ha, fun dx h1 h2 => q dx h1 h2⟩⟩
theorem ok_x_TooMany {f : Addr} {fd : FuncData} (F : Fun K "__init__" "TooMany.__init__" s_TooMany_init f fd) (T : Txt K mg A) : FnOk P w K mg base CX0 1 f fd ["self", "limit"] (spXI A.TooMany "limit") := by
  refine F.ok sc_TooMany_init (fun vs H Q E h => ?_) (fun cdv A' outer s H vs Q E hr h => ?_)
  · obtain ⟨a, y, rfl, _⟩ := h
    rfl
  · obtain ⟨a, y, rfl, ha, q⟩ := h
    refine ⟨_, pss_one (ps_ostO (pv 0) (pv 1)), ?_⟩
    exact ⟨_, rfl, _, rfl, a, A.TooMany, rfl, T.TooMany.ox, T.TooMany.noA, ha, fun dx h1 h2 => q dx h1 h2⟩
/-! kinds, told by the data -/
theorem kd_str {d : PyData} : PySem.W.kitOne K (.type (tnD d)) (.type "str") = some (isStrD d) := by cases d <;> exact kit_ty (by dsimp only [tnD, isStrD]; decide +kernel)
def spInteger (K : PySem.W.Frag) : Sp := fun vs H Q _ => ∃ v d, vs = [v] ∧ Dp K H v d ∧ Q (.bl (isIntD d && !isBoolD d)) H
theorem ok_integer {f : Addr} {fd : FuncData} (F : Fun K "is_integer" "is_integer" s_is_integer f fd) (T : Txt K mg A) : FnOk P w K mg base CX0 1 f fd pm_is_integer (spInteger K) := by
  refine F.ok sc_is_integer (fun vs H Q E h => ?_) (fun cdv A' outer s H vs Q E hr h => ?_)
  · obtain ⟨v, k, rfl, _⟩ := h
    rfl
  · obtain ⟨v, d, rfl, hk, q⟩ := h
    refine ⟨_, pss_one (ps_ret (pe_and (pe_callB call_isi (by rfl) T.n_isinstance (by decide +kernel) (pa_cons (pv 0) (pa_cons (pe_bltn (v := .ty "int") (by rfl) T.n_int (by decide +kernel) rfl) pa_nil))) (pe_one (pe_not (pe_callB call_isi (by rfl) T.n_isinstance (by decide +kernel) (pa_cons (pv 0) (pa_cons (pe_bltn (v := .ty "bool") (by rfl) T.n_bool (by decide +kernel) rfl) pa_nil))))))), ?_⟩
    refine ⟨v, rfl, v, .ty "int", .type (tnD d), .type "int", isIntD d, rfl, .ty _, dp_ty hk, kd_int, _, rfl, ?_⟩
    cases h1 : isIntD d with
    | true =>
      rw [h1] at q
      exact iteT ⟨v, rfl, v, .ty "bool", .type (tnD d), .type "bool", isBoolD d, rfl, .ty _, dp_ty hk, kd_bool, _, rfl, q⟩
    | false =>
      rw [h1] at q
      exact iteF q
def spBetween (K : PySem.W.Frag) : Sp := fun vs H Q _ => ∃ v d a b, vs = [v, .int a, .int b] ∧ Dp K H v d ∧ Q (.bl (betD d a b)) H
theorem ok_between {f : Addr} {fd : FuncData} (F : Fun K "is_between" "is_between" s_is_between f fd) (O_is_integer : Own P w K mg base CX0 "is_integer" 1 pm_is_integer (spInteger K)) : FnOk P w K mg base CX0 2 f fd pm_is_between (spBetween K) := by
  refine F.ok sc_is_between (fun vs H Q E h => ?_) (fun cdv A' outer s H vs Q E hr h => ?_)
  · obtain ⟨v, k, a, b, rfl, _⟩ := h
    rfl
  · obtain ⟨v, d, a, b, rfl, hk, q⟩ := h
    refine ⟨_, pss_one (ps_ret (pe_and (pe_own O_is_integer (hr.mono (by decide)) pass0 (pa_cons (pv 0) pa_nil)) (pe_one (pe_chain op_le op_le (pv 1) (pv 0) (pv 2))))), ?_⟩
    refine ⟨v, rfl, v, d, rfl, hk, _, rfl, ?_⟩
    cases h1 : (isIntD d && !isBoolD d) with
    | true =>
      obtain ⟨n, rfl⟩ := int_yes h1
      obtain rfl := dp_int hk
      refine iteT ⟨_, rfl, _, rfl, _, _, rfl, rfl, _, rfl, ?_⟩
      rw [bet_int] at q
      cases h2 : decide (a ≤ n) with
      | true =>
        rw [h2] at q
        exact iteT ⟨_, rfl, _, _, rfl, rfl, q⟩
      | false =>
        rw [h2] at q
        exact iteF q
    | false =>
      rw [bet_not h1] at q
      exact iteF q
def spIsList (K : PySem.W.Frag) : Sp := fun vs H Q _ => ∃ v t k, vs = [v] ∧ (∀ H', Ext H H' → TyX K H' v t) ∧ PySem.W.kitAny K t [.type "list", .type "tuple"] = some k ∧ ∀ H', Ext H H' → Q (.bl k) H'
theorem ok_isList {f : Addr} {fd : FuncData} (F : Fun K "is_list" "is_list" s_is_list f fd) (T : Txt K mg A) : FnOk P w K mg base CX0 1 f fd pm_is_list (spIsList K) := by
  refine F.ok sc_is_list (fun vs H Q E h => ?_) (fun cdv A' outer s H vs Q E hr h => ?_)
  · obtain ⟨v, t, k, rfl, _⟩ := h
    rfl
  · obtain ⟨v, t, k, rfl, hk, hs, q⟩ := h
    refine ⟨_, pss_one (ps_ret (pe_callB call_isiT (by rfl) T.n_isinstance (by decide +kernel) (pa_cons (pv 0) (pa_cons (pe_tup (pa_cons (pe_bltn (v := .ty "list") (by rfl) T.n_list (by decide +kernel) rfl) (pa_cons (pe_bltn (v := .ty "tuple") (by rfl) T.n_tuple (by decide +kernel) rfl) pa_nil))) pa_nil)))), ?_⟩
    refine ⟨v, rfl, by show 2 ≤ sizeLine; decide, fun p hp => ?_⟩
    exact ⟨v, p, [.ty "list", .ty "tuple"], t, [.type "list", .type "tuple"], k, rfl, upd_same, .cons (.ty _) (.cons (.ty _) .nil), hk _ (Ext.upd hp), hs, q _ (Ext.upd hp)⟩
theorem dp_lenD {H : Hp} {xs : List V} {ds : List PyData} {d : PyData} (ha : DpAll K H xs ds) (h : d = .list ds ∨ d = .tuple ds) : lenD d = xs.length := by
  rw [dps_len ha]
  rcases h with rfl | rfl <;> rfl
theorem dvi {a b : Int} : decide (V.int a = V.int b) = decide (a = b) := by simp
theorem dvs {a b : Str} : decide (V.str a = V.str b) = decide (a = b) := by simp
theorem small_sz {n : Nat} (h : n ≤ 2000) : n < sizeLine := Nat.lt_of_le_of_lt h (by decide)
theorem all_map {β : Type} {xs : List β} {f : β → Bool} : xs.map (fun x => V.bl (f x)) = (xs.map f).map V.bl := by
  rw [List.map_map]
  rfl
theorem all_id {β : Type} {xs : List β} {f : β → Bool} : (xs.map f).all id = xs.all f := by
  rw [List.all_map]
  rfl
theorem kit_any2 {t a b : String} (h1 : kitB t a = some false) (h2 : kitB t b = some false) : PySem.W.kitAny K (.type t) [.type a, .type b] = some false :=
  kitAny_cons (kit_ty h1) (fun _ => kitAny_cons (kit_ty h2) (fun _ => rfl) fun h => nomatch h) fun h => nomatch h
/-- a dict stands for what is no data here -/
inductive Th (K : PySem.W.Frag) (H : Hp) (v : V) : Option PyData → Prop where
  | dat {d : PyData} (h : Dp K H v d) : Th K H v (some d)
  | dic {a : Addr} (e : v = .ref a) (h : H a = some (.dK [])) : Th K H v none
theorem Th.ext {H H' : Hp} {v : V} {o : Option PyData} (h : Th K H v o) (e : Ext H H') : Th K H' v o := by
  cases h with
  | dat h => exact .dat (dp_ext e _ _ h)
  | dic h1 h2 => exact .dic h1 (e _ _ h2)
def seqN : Option PyData → Option Nat
  | some (.list ds) => some ds.length
  | some (.tuple ds) => some ds.length
  | _ => none
def spListOf (K : PySem.W.Frag) : Sp := fun vs H Q _ => ∃ v o a b, vs = [v, .int a, .int b] ∧ Th K H v o ∧ ∀ H', Ext H H' → Q (.bl ((seqN o).elim false fun n => decide (a ≤ (n : Int)) && decide ((n : Int) ≤ b))) H'
theorem kd_seqN {d : PyData} : (seqN (some d)).isSome = isSeqD d := by cases d <;> rfl
theorem ok_listOf {f : Addr} {fd : FuncData} (F : Fun K "is_list_of" "is_list_of" s_is_list_of f fd) (T : Txt K mg A) (O_is_list : Own P w K mg base CX0 "is_list" 1 pm_is_list (spIsList K)) : FnOk P w K mg base CX0 2 f fd pm_is_list_of (spListOf K) := by
  refine F.ok sc_is_list_of (fun vs H Q E h => ?_) (fun cdv A' outer s H vs Q E hr h => ?_)
  · obtain ⟨_, _, _, _, rfl, _⟩ := h
    rfl
  · obtain ⟨v, o, a, b, rfl, ho, q⟩ := h
    refine ⟨_, pss_one (ps_ret (pe_and (pe_own O_is_list (hr.mono (by decide)) pass0 (pa_cons (pv 0) pa_nil)) (pe_one (pe_chain op_le op_le (pv 1) (pe_callB call_len_seq (by rfl) T.n_len (by decide +kernel) (pa_cons (pv 0) pa_nil)) (pv 2))))), ?_⟩
    cases ho with
    | dic e hz =>
      subst e
      exact ⟨_, rfl, _, .type "dict", false, rfl, fun H' e => .base (.dK (e _ _ hz)), kit_any2 (by decide +kernel) (by decide +kernel), fun H' e => ⟨_, rfl, iteF (q H' e)⟩⟩
    | @dat d hd =>
      refine ⟨v, rfl, v, .type (tnD d), isSeqD d, rfl, fun H' e => dp_ty (dp_ext e _ _ hd), by rw [kd_seq], fun H1 e1 => ⟨_, rfl, ?_⟩⟩
      have q1 := q H1 e1
      cases h1 : isSeqD d with
      | false =>
        rw [show seqN (some d) = none from (by cases d <;> first | rfl | cases h1)] at q1
        exact iteF q1
      | true =>
        obtain ⟨p, xs, ds, rfl, hx, ha, hdd⟩ := dp_seq (dp_ext e1 _ _ hd) h1
        have hn : seqN (some d) = some xs.length := by
          rw [dps_len ha]
          rcases hdd with rfl | rfl <;> rfl
        rw [hn] at q1
        replace q1 : Q (.bl (decide (a ≤ (xs.length : Int)) && decide ((xs.length : Int) ≤ b))) H1 := q1
        refine iteT ⟨_, rfl, _, rfl, p, xs, rfl, hx, _, _, rfl, rfl, _, rfl, ?_⟩
        cases h2 : decide (a ≤ (xs.length : Int)) with
        | true =>
          rw [h2] at q1
          exact iteT ⟨_, rfl, _, _, rfl, rfl, q1⟩
        | false =>
          rw [h2] at q1
          exact iteF q1
def spLesser : Sp := fun vs H Q _ => ∃ a b : Int, vs = [.int a, .int b] ∧ Q (.int (min a b)) H
theorem ok_lesser {f : Addr} {fd : FuncData} (F : Fun K "lesser" "lesser" s_lesser f fd) (T : Txt K mg A) : FnOk P w K mg base CX0 1 f fd pm_lesser spLesser := by
  refine F.ok sc_lesser (fun vs H Q E h => ?_) (fun cdv A' outer s H vs Q E hr h => ?_)
  · obtain ⟨_, _, rfl, _⟩ := h
    rfl
  · obtain ⟨a, b, rfl, q⟩ := h
    refine ⟨_, pss_one (ps_ret (pe_callB (call_min2 rfl) (by rfl) T.n_min (by decide +kernel) (pa_cons (pe_callTy call_int1 (by rfl) T.n_int (by decide +kernel) (pa_cons (pv 0) pa_nil)) (pa_cons (pe_callTy call_int1 (by rfl) T.n_int (by decide +kernel) (pa_cons (pv 1) pa_nil)) pa_nil)))), ?_⟩
    rw [show min a b = if b < a then b else a by omega] at q
    exact ⟨_, rfl, .inl ⟨_, rfl, _, rfl, .inl ⟨_, rfl, _, _, rfl, q⟩⟩⟩
end
end K08

set_option Elab.async false
set_option maxRecDepth 100000
set_option maxHeartbeats 4000000
namespace K08
open PySem PySem.Spec PyProof.Rows L2
/-! what a row of bounds tells, told plainly -/
def told (bs : List Int) (f : Int) : Int := bs.foldl (fun a b => if b ≤ f then b else a) 0
def OkB (bs : List Int) : Prop := 1 ≤ bs.length ∧ bs.length ≤ 4 ∧ (∀ b ∈ bs, 1 ≤ b ∧ b ≤ 60) ∧ bs.Pairwise (· < ·)
theorem mxD_cons {b : Int} {l : List Int} (h : ∀ x ∈ l, b < x) : mxD b l = l.foldl max b := by
  cases l with
  | nil => rfl
  | cons n ns =>
    have := h n List.mem_cons_self
    show ns.foldl max n = ns.foldl max (max b n)
    rw [show max b n = n by omega]
theorem fold_max {f : Int} : ∀ (bs : List Int) (a : Int), (∀ b ∈ bs, a < b) → bs.Pairwise (· < ·) → bs.foldl (fun a b => if b ≤ f then b else a) a = mxD a (bs.filter fun b => decide (b ≤ f))
  | [], _, _, _ => rfl
  | b :: bs, a, ha, hp => by
    rw [List.pairwise_cons] at hp
    rw [List.foldl_cons]
    by_cases hb : b ≤ f
    · rw [if_pos hb, List.filter_cons_of_pos (by rw [decide_eq_true hb]), fold_max bs b hp.1 hp.2]
      exact mxD_cons fun x hx => hp.1 x (List.mem_filter.mp hx).1
    · rw [if_neg hb, List.filter_cons_of_neg (by rw [decide_eq_false hb]; exact Bool.false_ne_true)]
      exact fold_max bs a (fun x hx => ha x (List.mem_cons_of_mem _ hx)) hp.2
theorem told_max {bs : List Int} (h : OkB bs) (f : Int) : mxD 0 (bs.filter fun b => decide (b ≤ f)) = told bs f :=
  (fold_max bs 0 (fun b hb => by have := (h.2.2.1 b hb).1; omega) h.2.2.2).symm
def under (bs os : List Int) : Bool := (List.range 61).all fun f => decide (told bs (f : Int) ≤ told os (f : Int))
theorem fold_bd {f : Int} : ∀ (bs : List Int) (a : Int), 0 ≤ a → a ≤ 60 → (∀ b ∈ bs, 1 ≤ b ∧ b ≤ 60) → 0 ≤ bs.foldl (fun a b => if b ≤ f then b else a) a ∧ bs.foldl (fun a b => if b ≤ f then b else a) a ≤ 60
  | [], _, h1, h2, _ => ⟨h1, h2⟩
  | b :: bs, a, h1, h2, h => by
    have hb := h b List.mem_cons_self
    rw [List.foldl_cons]
    refine fold_bd bs _ ?_ ?_ fun x hx => h x (List.mem_cons_of_mem _ hx)
    · split <;> omega
    · split <;> omega
/-- the thing at place i may stand there, behind those that may -/
def okAt (ds : List PyData) (i : Nat) : Bool := match ds[i]? with
  | some (.int n) => (decide (1 ≤ n) && decide (n ≤ 60)) && (decide (i = 0) || match ds[i - 1]? with | some (.int m) => decide (m < n) | _ => false)
  | _ => false
theorem okAt_int {ds : List PyData} {i : Nat} (h : okAt ds i = true) : ∃ n, ds[i]? = some (.int n) ∧ 1 ≤ n ∧ n ≤ 60 ∧ (i = 0 ∨ ∃ m, ds[i - 1]? = some (.int m) ∧ m < n) := by
  unfold okAt at h
  split at h
  case h_1 n e =>
    rw [Bool.and_eq_true, Bool.and_eq_true, Bool.or_eq_true, decide_eq_true_eq, decide_eq_true_eq, decide_eq_true_eq] at h
    refine ⟨n, e, h.1.1, h.1.2, ?_⟩
    rcases h.2 with h2 | h2
    · exact .inl h2
    · split at h2
      case h_1 m e2 => exact .inr ⟨m, e2, of_decide_eq_true h2⟩
      case h_2 => cases h2
  case h_2 => cases h
theorem okAt_val {ds : List PyData} {i : Nat} {n : Int} (h : ds[i]? = some (.int n)) : okAt ds i = ((decide (1 ≤ n) && decide (n ≤ 60)) && (decide (i = 0) || match ds[i - 1]? with | some (.int m) => decide (m < n) | _ => false)) := by
  unfold okAt
  rw [h]
theorem ints_of : ∀ {ds : List PyData}, (∀ i, i < ds.length → ∃ n : Int, ds[i]? = some (.int n)) → ∃ bs : List Int, ds = bs.map .int
  | [], _ => ⟨[], rfl⟩
  | d :: ds, h => by
    obtain ⟨n, hn⟩ := h 0 (Nat.zero_lt_succ _)
    obtain ⟨bs, rfl⟩ := ints_of (ds := ds) fun i hi => by
      obtain ⟨m, hm⟩ := h (i + 1) (Nat.succ_lt_succ hi)
      exact ⟨m, by rw [List.getElem?_cons_succ] at hm; exact hm⟩
    rw [List.getElem?_cons_zero] at hn
    cases hn
    exact ⟨n :: bs, rfl⟩
theorem pw_adj : ∀ {bs : List Int}, (∀ i a b, bs[i]? = some a → bs[i + 1]? = some b → a < b) → bs.Pairwise (· < ·)
  | [], _ => .nil
  | [a], _ => List.pairwise_singleton _ _
  | a :: b :: bs, h => by
    have ih := pw_adj (bs := b :: bs) fun i x y hx hy => h (i + 1) x y (by rw [List.getElem?_cons_succ]; exact hx) (by rw [List.getElem?_cons_succ]; exact hy)
    have hab := h 0 a b rfl rfl
    refine List.pairwise_cons.mpr ⟨fun x hx => ?_, ih⟩
    rcases List.mem_cons.mp hx with rfl | hx
    · exact hab
    · have := (List.pairwise_cons.mp ih).1 x hx
      omega
theorem ok_all {ds : List PyData} (h1 : 1 ≤ ds.length) (h4 : ds.length ≤ 4) (h : ∀ i, i < ds.length → okAt ds i = true) : ∃ bs : List Int, ds = bs.map .int ∧ OkB bs := by
  obtain ⟨bs, rfl⟩ := ints_of (ds := ds) fun i hi => by
    obtain ⟨n, hn, _⟩ := okAt_int (h i hi)
    exact ⟨n, hn⟩
  rw [List.length_map] at h1 h4 h
  refine ⟨bs, rfl, h1, h4, fun b hb => ?_, pw_adj fun i a b ha hb => ?_⟩
  · obtain ⟨i, hi⟩ := List.getElem?_of_mem hb
    obtain ⟨n, hn, n1, n2, _⟩ := okAt_int (h i (List.getElem?_eq_some_iff.mp hi).1)
    rw [List.getElem?_map, hi] at hn
    cases hn
    exact ⟨n1, n2⟩
  · obtain ⟨n, hn, _, _, hz⟩ := okAt_int (h (i + 1) (List.getElem?_eq_some_iff.mp hb).1)
    rw [List.getElem?_map, hb] at hn
    cases hn
    rcases hz with hz | ⟨m, hm, hlt⟩
    · omega
    · rw [Nat.add_sub_cancel, List.getElem?_map, ha] at hm
      cases hm
      exact hlt
theorem all_ok {bs : List Int} (g : OkB bs) {i : Nat} (hi : i < bs.length) : okAt (bs.map PyData.int) i = true := by
  have hx : bs[i]? = some bs[i] := List.getElem?_eq_getElem hi
  have hb := g.2.2.1 _ (List.getElem_mem hi)
  rw [okAt_val (n := bs[i]) (by rw [List.getElem?_map, hx]; rfl), decide_eq_true hb.1, decide_eq_true hb.2]
  cases i with
  | zero => rfl
  | succ j =>
    have hj : j < bs.length := by omega
    rw [Nat.add_sub_cancel, List.getElem?_map, List.getElem?_eq_getElem hj]
    have := List.pairwise_iff_getElem.mp g.2.2.2 j (j + 1) hj hi (Nat.lt_succ_self _)
    show (_ && (_ || decide (bs[j] < bs[j + 1]))) = true
    rw [decide_eq_true this, Bool.or_true]
    rfl
end K08

set_option Elab.async false
set_option maxRecDepth 100000
set_option maxHeartbeats 4000000
namespace K08
open PySem PySem.Spec PyProof.Rows L2
section
variable {P : Program} {w : World} {K : PySem.W.Frag} {mg : Str → Option Value} {base : Heap} {A : Ad}
def spToldOf (K : PySem.W.Frag) : Sp := fun vs H Q _ => ∃ (p : Addr) (bs : List Int) (f : Int), vs = [.ref p, .int f] ∧ SqT K H p (bs.map V.int) ∧ OkB bs ∧ ∀ H', Ext H H' → Q (.int (told bs f)) H'
theorem ok_toldOf {f : Addr} {fd : FuncData} (F : Fun K "told_of" "told_of" s_told_of f fd) (T : Txt K mg A) : FnOk P w K mg base CX0 1 f fd pm_told_of (spToldOf K) := by
  refine F.ok sc_told_of (fun vs H Q E h => ?_) (fun cdv A' outer sh H vs Q E hr h => ?_)
  · obtain ⟨_, _, _, rfl, _⟩ := h
    rfl
  · obtain ⟨p, bs, fr, rfl, hp, g, q⟩ := h
    refine ⟨_, pss_one (ps_ret (pe_callBK (cr_maxD rfl hr.units) (by rfl) T.n_max (by decide +kernel) (pa_cons (pe_lc (own := [("bound", 2)]) (g := gName 2) (by rfl) sc_told_of.nd (pi_tup (pv 0)) (blkOk_by (own := [("bound", 2)]) (N := nm_told_of) (sc := defScope s_told_of) (by decide +kernel)) (fun _ _ _ _ _ => pg_name (i := 2) sc_told_of.nd rfl (Or.inl rfl)) (fun s1 H1 C1 cl fp => pts_one (pt_cmpR op_le (pv 2) (pv 1) (nomark _))) (fun s1 H1 C1 cl fp => pe_callTy call_int1 (by rfl) T.n_int (by decide +kernel) (pa_cons (pv 2) pa_nil))) pa_nil) (pk_cons (pe_int) pk_nil))), ?_⟩
    refine ⟨_, rfl, p, rfl, ⟨_, hp⟩, fun C hC => ?_⟩
    refine lc_it (walk_tup (xs := bs.map V.int)) (fun m H5 => Ext H H5 ∧ H5 C = some (.lst (((bs.take m).filter fun b => decide (b ≤ fr)).map V.int))) ⟨Ext.upd hC, upd_same⟩ (fun m H5 _ pv => hp.ext pv.1) (fun m z Hx H5 hi pv hyy => ?_) (fun H5 pv => ?_)
    · obtain ⟨e4, hC4⟩ := pv
      obtain ⟨rfl, hz⟩ := hyy
      replace hz : (bs.map V.int)[m]? = some z := hz
      rw [List.getElem?_map] at hz
      obtain ⟨b, hb, rfl⟩ := Option.map_eq_some_iff.mp hz
      have hst : (bs.take (m + 1)).filter (fun b => decide (b ≤ fr)) = (bs.take m).filter (fun b => decide (b ≤ fr)) ++ (if b ≤ fr then [b] else []) := by
        rw [take_snoc hb, List.filter_append, List.filter_cons, List.filter_nil]
        by_cases h : b ≤ fr
        · rw [if_pos h, decide_eq_true h]
          rfl
        · rw [if_neg h, decide_eq_false h]
          rfl
      have hle : ((bs.take m).filter fun b => decide (b ≤ fr)).length ≤ 4 := Nat.le_trans (List.length_filter_le _ _) (Nat.le_trans (by rw [List.length_take]; exact Nat.min_le_right _ _) g.2.1)
      refine ⟨rfl, _, rfl, _, rfl, _, _, rfl, rfl, _, rfl, ?_⟩
      by_cases h : b ≤ fr
      · rw [decide_eq_true h]
        rw [if_pos h] at hst
        refine iteT ⟨_, rfl, .inl ⟨_, rfl, _, hC4, small_sz (by rw [List.length_map]; omega), ext_mut e4 hC, ?_⟩⟩
        rw [upd_same, hst, List.map_append]
        rfl
      · rw [decide_eq_false h]
        rw [if_neg h, List.append_nil] at hst
        exact iteF ⟨e4, by rw [hst]; exact hC4⟩
    · obtain ⟨e4, hC4⟩ := pv
      rw [List.take_of_length_le (by rw [List.length_map]; exact Nat.le_refl _)] at hC4
      have hq := q H5 e4
      rw [← told_max g fr] at hq
      exact ⟨C, _, 0, rfl, rfl, SqL.of hC4, hq⟩
def spUnder (K : PySem.W.Frag) : Sp := fun vs H Q _ => ∃ (p p2 : Addr) (bs os : List Int), vs = [.ref p, .ref p2] ∧ SqT K H p (bs.map V.int) ∧ SqT K H p2 (os.map V.int) ∧ OkB bs ∧ OkB os ∧ ∀ H', Ext H H' → Q (.bl (under bs os)) H'
theorem ok_under {f : Addr} {fd : FuncData} (F : Fun K "are_under" "are_under" s_are_under f fd) (T : Txt K mg A) (O_told_of : Own P w K mg base CX0 "told_of" 1 pm_told_of (spToldOf K)) : FnOk P w K mg base CX0 2 f fd pm_are_under (spUnder K) := by
  refine F.ok sc_are_under (fun vs H Q E h => ?_) (fun cdv A' outer sh H vs Q E hr h => ?_)
  · obtain ⟨_, _, _, _, rfl, _⟩ := h
    rfl
  · obtain ⟨p, p2, bs, os, rfl, hp, hp2, g, g2, q⟩ := h
    refine ⟨_, pss_one (ps_ret (pe_callB (cr_all rfl) (by rfl) T.n_all (by decide +kernel) (pa_cons (pe_lc (own := [("free", 2)]) (g := gName 2) (by rfl) sc_are_under.nd (pi_range1 rfl T.n_range (pa_cons (pe_op op_add (pe_gint T.g_MOST_UNITS) (pe_int)) pa_nil)) (blkOk_by (own := [("free", 2)]) (N := nm_are_under) (sc := defScope s_are_under) (by decide +kernel)) (fun _ _ _ _ _ => pg_name (i := 2) sc_are_under.nd rfl (Or.inl rfl)) (fun s1 H1 C1 cl fp => pts_nil) (fun s1 H1 C1 cl fp => pe_cmpR op_le (pe_own O_told_of (hr.mono (by decide)) pass0 (pa_cons (pv 0) (pa_cons (pv 2) pa_nil))) (pe_own O_told_of (hr.mono (by decide)) pass0 (pa_cons (pv 1) (pa_cons (pv 2) pa_nil))) (nomark _))) pa_nil))), ?_⟩
    refine ⟨_, _, rfl, rfl, (60 : Int) + 1, rfl, by omega, by omega, fun D hD => ?_⟩
    rw [show ((60 : Int) + 1).toNat = 61 from rfl]
    refine lc_range (fun i H' => Ext H H' ∧ H' D = some (.lst (((List.range i).map fun f => decide (told bs ((f : Nat) : Int) ≤ told os ((f : Nat) : Int))).map V.bl))) ⟨Ext.upd hD, upd_same⟩ (fun i H2 hi pv => ?_) (fun H2 pv => ?_)
    · obtain ⟨e, hl⟩ := pv
      rw [Int.zero_add]
      refine ⟨rfl, _, rfl, _, rfl, p, bs, _, rfl, hp.ext e, g, fun H3 e3 => ?_⟩
      refine ⟨_, rfl, _, rfl, p2, os, _, rfl, (hp2.ext e).ext e3, g2, fun H4 e4 => ?_⟩
      refine ⟨_, _, rfl, rfl, ?_⟩
      have e34 := e3.trans e4
      refine ⟨_, e34 _ _ hl, small_sz (by rw [List.length_map, List.length_map, List.length_range]; omega), ext_mut (e.trans e34) hD, ?_⟩
      rw [upd_same, List.range_succ, List.map_append, List.map_append]
      rfl
    · obtain ⟨e, hl⟩ := pv
      refine ⟨D, _, rfl, SqL.of hl, ?_⟩
      rw [all_id]
      exact q H2 e
end
end K08

set_option Elab.async false
set_option maxRecDepth 100000
set_option maxHeartbeats 4000000
namespace K08
open PySem PySem.Spec PyProof.Rows L2
def inN (o : Option PyData) : Bool := (seqN o).elim false fun n => decide ((1 : Int) ≤ (n : Int)) && decide ((n : Int) ≤ 4)
section
variable {P : Program} {w : World} {K : PySem.W.Frag} {mg : Str → Option Value} {base : Heap} {A : Ad}
def ErrS (A : Ad) (E : XK) (H : Hp) (v : V) : Prop := ∀ H', Ext H H' → ∀ e, H' e = none → E (.ref A.BadSteps) (some e) (upd H' e (.xd [("index", v)]))
def ErrN (A : Ad) (E : XK) (H : Hp) (v : V) : Prop := ∀ H', Ext H H' → ∀ e, H' e = none → E (.ref A.BadNumber) (some e) (upd H' e (.xd [("number", v)]))
def ErrP (A : Ad) (E : XK) (H : Hp) (x : Str) : Prop := ∀ H', Ext H H' → ∀ e, H' e = none → E (.ref A.BadPart) (some e) (upd H' e (.xd [("part", .str x)]))
def ErrM (A : Ad) (E : XK) (H : Hp) : Prop := ∀ H', Ext H H' → ∀ e, H' e = none → E (.ref A.TooMany) (some e) (upd H' e (.xd [("limit", .int 4)]))
def StAt (K : PySem.W.Frag) (A : Ad) (H : Hp) (s : Addr) (bs : List Int) : Prop := ∃ dx pb, H s = some (.ins A.Steps dx [("bounds", .ref pb)]) ∧ SqT K H pb (bs.map V.int)
theorem StAt.ext {H H' : Hp} {s : Addr} {bs : List Int} (h : StAt K A H s bs) (e : Ext H H') : StAt K A H' s bs := by
  obtain ⟨dx, pb, h1, h2⟩ := h
  exact ⟨dx, pb, e _ _ h1, h2.ext e⟩
structure StI (K : PySem.W.Frag) (A : Ad) (vs : List V) (H : Hp) (Q : VK) (E : XK) : Prop where
  h : ∃ (p dx : Addr) (v : V) (o : Option PyData), vs = [.ref p, v] ∧ H p = some (.ins A.Steps dx []) ∧ Th K H v o ∧ (inN o = false → ErrS A E H .non) ∧
    (∀ ds, (o = some (.list ds) ∨ o = some (.tuple ds)) → inN o = true → (∀ i : Nat, i < ds.length → (∀ j, j < i → okAt ds j = true) → okAt ds i = false → ErrS A E H (.int (i : Int))) ∧
      ∀ bs : List Int, ds = bs.map .int → OkB bs → ∀ H', StAt K A H' p bs → (∀ x o, x ≠ p → H x = some o → H' x = some o) → Q .non H')
def spStepsInit (K : PySem.W.Frag) (A : Ad) : Sp := fun vs H Q E => StI K A vs H Q E
theorem sqT_mut {H H' : Hp} {p a C dx : Addr} {fs : List (Str × V)} {xs : List V} (hp : H p = some (.ins C dx fs)) (e : ∀ x o, x ≠ p → H x = some o → H' x = some o) (h : SqT K H a xs) : SqT K H' a xs := by
  rcases h with (h | ⟨o, h⟩) | h
  · exact .inl (.inl (e a _ (fun z => by rw [z, hp] at h; cases h) h))
  · exact .inl (.inr ⟨o, e a _ (fun z => by rw [z, hp] at h; cases h) h⟩)
  · exact .inr h
theorem dps_int {H : Hp} : ∀ {xs : List V} {bs : List Int}, DpAll K H xs (bs.map PyData.int) → xs = bs.map V.int
  | xs, [], h => by
    cases h
    rfl
  | xs, b :: bs, h => by
    cases h with
    | cons a1 a2 =>
      cases a1
      rw [dps_int a2]
      rfl
theorem okAt_bet {ds : List PyData} {i : Nat} {d : PyData} (h : ds[i]? = some d) (hb : betD d 1 60 = false) : okAt ds i = false := by
  unfold okAt
  rw [h]
  cases d with
  | int n =>
    rw [bet_int] at hb
    dsimp only
    rw [hb]
    rfl
  | _ => rfl
theorem dps_at {H : Hp} : ∀ {xs : List V} {ds : List PyData} {i : Nat} {d : PyData}, DpAll K H xs ds → ds[i]? = some d → ∃ x, xs[i]? = some x ∧ Dp K H x d
  | _, [], _, _, _, h => nomatch h
  | xs, d :: ds, i, d', h, hi => by
    cases h with
    | cons a1 a2 =>
      cases i with
      | zero =>
        cases hi
        exact ⟨_, rfl, a1⟩
      | succ i => exact dps_at (i := i) a2 hi
theorem ok_stepsInit {f : Addr} {fd : FuncData} (F : Fun K "__init__" "Steps.__init__" s_Steps_init f fd) (T : Txt K mg A) (O_is_list_of : Own P w K mg base CX0 "is_list_of" 2 pm_is_list_of (spListOf K)) (O_is_between : Own P w K mg base CX0 "is_between" 2 pm_is_between (spBetween K)) (X_BadSteps : XCls P w K mg base "BadSteps" "index" A.BadSteps) : FnOk P w K mg base (L2.CX P w) 3 f fd pm_Steps_init (spStepsInit K A) := by
  refine F.okX sc_Steps_init (fun vs H Q E h => ?_) (fun cdv A' outer sh H vs Q E hr h => ?_)
  · obtain ⟨_, _, _, _, rfl, _⟩ := h.h
    rfl
  · obtain ⟨p, dx, v, o, rfl, hp, hv, q1, q2⟩ := h.h
    refine ⟨_, pss_cons (ps_if (pt_not (pt_val (pe_own O_is_list_of (hr.mono (by decide)) pass0 (pa_cons (pv 1) (pa_cons (pe_int) (pa_cons (pe_gint T.g_MOST_BOUNDS) pa_nil)))))) (pss_one (ps_raise rfl (takes_of rfl rfl rfl rfl) (pmk_X X_BadSteps (hr.mono (by decide)) (pe_non) rfl))) (pss_nil))
      (pss_cons (ps_for (passes_of rfl) rfl (pi_enSq rfl T.n_enumerate (pa_cons (pv 1) pa_nil)) (pg_tup rfl (pgs_cons (pg_name (i := 2) sc_Steps_init.nd rfl (Or.inl rfl)) (pgs_cons (pg_name (i := 3) sc_Steps_init.nd rfl (Or.inl rfl)) (pgs_nil)))) (pss_one (ps_if (PW.pt (pw_or (pt_not (pt_val (pe_own O_is_between (hr.mono (by decide)) pass0 (pa_cons (pv 3) (pa_cons (pe_int) (pa_cons (pe_gint T.g_MOST_UNITS) pa_nil)))))) (pw_or1 (PW.pt (pw_and (pt_cmpR op_gt (pv 2) (pe_int) (nomark _)) (pw_and1 (pt_cmpR op_le (pv 3) (pe_either (pe_ix ix_list (pv 1) (pe_op op_sub (pv 2) (pe_int)) (fun _ _ => rfl)) (pe_ix ix_tup (pv 1) (pe_op op_sub (pv 2) (pe_int)) (fun _ _ => rfl))) (nomark _)))))))) (pss_one (ps_raise rfl (takes_of rfl rfl rfl rfl) (pmk_X X_BadSteps (hr.mono (by decide)) (pv 2) rfl))) (pss_nil))))
      (pss_one (ps_fld (pv 0) (pe_callTy call_tuple_of (by rfl) T.n_tuple (by decide +kernel) (pa_cons (pv 1) pa_nil)) rfl))), ?_⟩
    refine ⟨v, rfl, v, o, 1, 4, rfl, hv, fun H1 e1 => ⟨_, rfl, ?_⟩⟩
    rw [show ((seqN o).elim false fun n => decide ((1 : Int) ≤ (n : Int)) && decide ((n : Int) ≤ 4)) = inN o from rfl]
    cases hin : inN o with
    | false => exact iteT (mkX_fin fun e he => q1 hin _ e1 e he)
    | true =>
      refine iteF ?_
      cases hv with
      | dic _ _ => cases hin
      | @dat d hd =>
        have h1 : isSeqD d = true := by cases d <;> first | rfl | cases hin
        obtain ⟨a, xs, ds, rfl, hx, ha, hdd⟩ := dp_seq (dp_ext e1 _ _ hd) h1
        have hxl := dps_len ha
        have hn : 1 ≤ ds.length ∧ ds.length ≤ 4 := by
          have : inN (some d) = (decide ((1 : Int) ≤ (ds.length : Int)) && decide ((ds.length : Int) ≤ 4)) := by rcases hdd with rfl | rfl <;> rfl
          rw [this, Bool.and_eq_true, decide_eq_true_eq, decide_eq_true_eq] at hin
          omega
        obtain ⟨q2a, q2b⟩ := q2 ds (hdd.imp (fun h => by rw [h]) fun h => by rw [h]) hin
        clear q1 q2
        refine ⟨_, rfl, a, rfl, ?_⟩
        refine for_enSqM (H0 := H1) (xs := xs) hx (fun i σ' H' => Ext H1 H' ∧ ∃ o2 o3, σ' = [some (.ref p), some (.ref a), o2, o3] ∧ ∀ j, j < i → okAt ds j = true) ⟨Ext.rfl', _, _, rfl, fun j hj => absurd hj (Nat.not_lt_zero _)⟩ (fun i σ' H' pv => pv.1) (fun i x σ' H' T' hi pv hT => ?_) (fun σ' H' pv => ?_)
        · obtain ⟨e, o2, o3, rfl, hok⟩ := pv
          refine ⟨T', _, rfl, SqT.of upd_same, rfl, _, _, rfl, _, _, rfl, rfl, ?_⟩
          have e3 := e.upd' (o := .tup [.int (i : Nat), x]) hT
          generalize upd H' T' (.tup [.int (i : Nat), x]) = H3 at e3 ⊢
          have ha3 := dps_ext e3 _ _ ha
          have hx3 := hx.imp (fun h => h.ext e3) (fun h => h.ext e3)
          obtain ⟨d0, hdi, hdv⟩ := dps_get ha3 hi
          refine ⟨_, rfl, x, d0, 1, 60, rfl, hdv, _, rfl, ?_⟩
          cases hb : betD d0 1 60 with
          | false => exact iteT ⟨_, rfl, mkX_fin fun e he => q2a i (by have := (List.getElem?_eq_some_iff.mp hdi).1; omega) hok (okAt_bet hdi hb) _ (e1.trans e3) e he⟩
          | true =>
            obtain ⟨n, rfl, n1, n2⟩ := bet_yes hb
            obtain rfl := dp_int hdv
            refine iteF ⟨_, rfl, _, _, rfl, rfl, _, rfl, ?_⟩
            cases i with
            | zero =>
              rw [decide_eq_false (show ¬ ((0 : Nat) : Int) > 0 by omega)]
              refine iteF ⟨e3, _, _, rfl, fun j hj => ?_⟩
              obtain rfl : j = 0 := by omega
              rw [okAt_val hdi, decide_eq_true n1, decide_eq_true n2]
              rfl
            | succ j =>
              rw [decide_eq_true (show ((j + 1 : Nat) : Int) > 0 by omega)]
              obtain ⟨m, hm, _⟩ := okAt_int (hok j (Nat.lt_succ_self _))
              obtain ⟨xm, hxm, hdm⟩ := dps_at ha3 hm
              obtain rfl := dp_int hdm
              have hsub : ((j + 1 : Nat) : Int) - 1 = (j : Int) := by omega
              have hat : atI xs (((j + 1 : Nat) : Int) - 1) = some (V.int m) := by
                rw [hsub]
                exact atI_nat hxm
              have hval : okAt ds (j + 1) = decide (m < n) := by
                rw [okAt_val hdi, decide_eq_true n1, decide_eq_true n2, Nat.add_sub_cancel, hm]
                rfl
              refine iteT ⟨_, rfl, ?_⟩
              by_cases hlt : m < n
              · rw [decide_eq_true hlt] at hval
                have fin : ∀ k, k < j + 1 + 1 → okAt ds k = true := fun k hk => by
                  rcases Nat.lt_or_ge k (j + 1) with h | h
                  · exact hok k h
                  · obtain rfl : k = j + 1 := by omega
                    exact hval
                rcases hx3 with hl | hl
                · refine .inl ⟨_, rfl, _, rfl, _, _, rfl, rfl, a, xs, _, .int m, rfl, rfl, hl, hat, _, _, rfl, rfl, _, rfl, ?_⟩
                  rw [decide_eq_false (show ¬ n ≤ m by omega)]
                  exact iteF ⟨e3, _, _, rfl, fin⟩
                · refine .inr ⟨_, rfl, _, rfl, _, _, rfl, rfl, a, xs, _, .int m, rfl, rfl, hl, hat, _, _, rfl, rfl, _, rfl, ?_⟩
                  rw [decide_eq_false (show ¬ n ≤ m by omega)]
                  exact iteF ⟨e3, _, _, rfl, fin⟩
              · rw [decide_eq_false hlt] at hval
                have bad := q2a (j + 1) (by have := (List.getElem?_eq_some_iff.mp hdi).1; omega) hok hval _ (e1.trans e3)
                rcases hx3 with hl | hl
                · refine .inl ⟨_, rfl, _, rfl, _, _, rfl, rfl, a, xs, _, .int m, rfl, rfl, hl, hat, _, _, rfl, rfl, _, rfl, ?_⟩
                  rw [decide_eq_true (show n ≤ m by omega)]
                  exact iteT ⟨_, rfl, mkX_fin fun e he => bad e he⟩
                · refine .inr ⟨_, rfl, _, rfl, _, _, rfl, rfl, a, xs, _, .int m, rfl, rfl, hl, hat, _, _, rfl, rfl, _, rfl, ?_⟩
                  rw [decide_eq_true (show n ≤ m by omega)]
                  exact iteT ⟨_, rfl, mkX_fin fun e he => bad e he⟩
        · obtain ⟨e, o2, o3, rfl, hok⟩ := pv
          obtain ⟨bs, rfl, g⟩ := ok_all hn.1 hn.2 (fun i hi => hok i (by omega))
          obtain rfl := dps_int ha
          have e1e := e1.trans e
          have hp' := e1e _ _ hp
          rcases hx with hl | ht
          · refine ⟨_, rfl, a, _, rfl, .inl ⟨hl.ext e, fun t ht => ?_⟩⟩
            have et := Ext.upd (o := .tup (bs.map V.int)) ht
            have ht2 : L2.upd H' t (.tup (bs.map V.int)) t = some (.tup (bs.map V.int)) := upd_same
            have hp2 := et _ _ hp'
            have e2 := e1e.trans et
            generalize L2.upd H' t (.tup (bs.map V.int)) = H2 at ht2 hp2 e2 ⊢
            refine ⟨_, rfl, p, A.Steps, dx, _, rfl, hp2, T.Steps.cl, T.s_bounds, (by show 0 < 1000; decide), ?_⟩
            exact q2b bs rfl g _ ⟨dx, t, upd_same, sqT_mut hp2 (fun x o hx h => by rw [upd_ne hx]; exact h) (SqT.of ht2)⟩ fun x o hx ho => by rw [upd_ne hx]; exact e2 _ _ ho
          · refine ⟨_, rfl, a, _, rfl, .inr ⟨ht.ext e, ?_⟩⟩
            refine ⟨_, rfl, p, A.Steps, dx, _, rfl, hp', T.Steps.cl, T.s_bounds, (by show 0 < 1000; decide), ?_⟩
            exact q2b bs rfl g _ ⟨dx, a, upd_same, sqT_mut hp' (fun x o hx h => by rw [upd_ne hx]; exact h) (ht.ext e)⟩ fun x o hx ho => by rw [upd_ne hx]; exact e1e _ _ ho
end
end K08

set_option Elab.async false
set_option maxRecDepth 100000
set_option maxHeartbeats 4000000
namespace K08
open PySem PySem.Spec PyProof.Rows L2
def freeD : PyData → Bool | .int f => decide (0 ≤ f) | _ => false
def conD (bs : List Int) : PyData → Bool | .int n => decide (n ∈ bs) | _ => false
section
variable {P : Program} {w : World} {K : PySem.W.Frag} {mg : Str → Option Value} {base : Heap} {A : Ad}
def spCall (K : PySem.W.Frag) (A : Ad) : Sp := fun vs H Q E => ∃ (s : Addr) (bs : List Int) (v : V) (d : PyData), vs = [.ref s, v] ∧ StAt K A H s bs ∧ OkB bs ∧ Dp K H v d ∧ (freeD d = false → ErrN A E H v) ∧ ∀ f, d = .int f → 0 ≤ f → ∀ H', Ext H H' → Q (.int (told bs f)) H'
theorem int_not {d : PyData} (h : (isIntD d && !isBoolD d) = false) : ∀ n, d ≠ .int n := fun n e => by
  rw [e] at h
  cases h
theorem ok_call {f : Addr} {fd : FuncData} (F : Fun K "__call__" "Steps.__call__" s_Steps_call f fd) (T : Txt K mg A) (O_is_integer : Own P w K mg base CX0 "is_integer" 1 pm_is_integer (spInteger K)) (O_told_of : Own P w K mg base CX0 "told_of" 1 pm_told_of (spToldOf K)) (X_BadNumber : XCls P w K mg base "BadNumber" "number" A.BadNumber) : FnOk P w K mg base (L2.CX P w) 3 f fd pm_Steps_call (spCall K A) := by
  refine F.okX sc_Steps_call (fun vs H Q E h => ?_) (fun cdv A' outer sh H vs Q E hr h => ?_)
  · obtain ⟨_, _, _, _, rfl, _⟩ := h
    rfl
  · obtain ⟨s, bs, v, d, rfl, ⟨dx, pb, hs, hb⟩, g, hd, q1, q2⟩ := h
    refine ⟨_, pss_cons (ps_if (PW.pt (pw_or (pt_not (pt_val (pe_own O_is_integer (hr.mono (by decide)) pass0 (pa_cons (pv 1) pa_nil)))) (pw_or1 (pt_cmpR op_lt (pv 1) (pe_int) (nomark _))))) (pss_one (ps_raise rfl (takes_of rfl rfl rfl rfl) (pmk_X X_BadNumber (hr.mono (by decide)) (pv 1) rfl))) (pss_nil))
      (pss_one (ps_ret (pe_own O_told_of (hr.mono (by decide)) pass0 (pa_cons (pe_fld (pv 0) rfl) (pa_cons (pv 1) pa_nil))))), ?_⟩
    refine ⟨v, rfl, v, d, rfl, hd, _, rfl, ?_⟩
    cases h1 : (isIntD d && !isBoolD d) with
    | false => exact iteT ⟨_, rfl, mkX_fin fun e he => q1 (by cases d <;> first | rfl | cases h1) _ Ext.rfl' e he⟩
    | true =>
      obtain ⟨n, rfl⟩ := int_yes h1
      obtain rfl := dp_int hd
      refine iteF ⟨_, rfl, _, _, rfl, rfl, _, rfl, ?_⟩
      by_cases hn : n < 0
      · rw [decide_eq_true hn]
        exact iteT ⟨_, rfl, mkX_fin fun e he => q1 (decide_eq_false (by omega)) _ Ext.rfl' e he⟩
      · rw [decide_eq_false hn]
        exact iteF ⟨_, rfl, s, A.Steps, dx, _, _, rfl, hs, T.Steps.cl, T.s_bounds, rfl, _, rfl, pb, bs, n, rfl, hb, g, fun H' e => q2 n rfl (by omega) H' e⟩
def spLen (K : PySem.W.Frag) (A : Ad) : Sp := fun vs H Q _ => ∃ (s : Addr) (bs : List Int), vs = [.ref s] ∧ StAt K A H s bs ∧ Q (.int (bs.length : Int)) H
theorem ok_len {f : Addr} {fd : FuncData} (F : Fun K "__len__" "Steps.__len__" s_Steps_len f fd) (T : Txt K mg A) : FnOk P w K mg base CX0 1 f fd pm_Steps_len (spLen K A) := by
  refine F.ok sc_Steps_len (fun vs H Q E h => ?_) (fun cdv A' outer sh H vs Q E hr h => ?_)
  · obtain ⟨_, _, rfl, _⟩ := h
    rfl
  · obtain ⟨s, bs, rfl, ⟨dx, pb, hs, hb⟩, q⟩ := h
    refine ⟨_, pss_one (ps_ret (pe_callB call_len_seq (by rfl) T.n_len (by decide +kernel) (pa_cons (pe_fld (pv 0) rfl) pa_nil))), ?_⟩
    refine ⟨_, rfl, s, A.Steps, dx, _, _, rfl, hs, T.Steps.cl, T.s_bounds, rfl, pb, _, rfl, .inr hb, ?_⟩
    rw [List.length_map]
    exact q
def spIn (K : PySem.W.Frag) (A : Ad) : Sp := fun vs H Q _ => ∃ (s : Addr) (bs : List Int) (v : V) (d : PyData), vs = [.ref s, v] ∧ StAt K A H s bs ∧ Dp K H v d ∧ Q (.bl (conD bs d)) H
theorem ok_in {f : Addr} {fd : FuncData} (F : Fun K "__contains__" "Steps.__contains__" s_Steps_contains f fd) (T : Txt K mg A) (O_is_integer : Own P w K mg base CX0 "is_integer" 1 pm_is_integer (spInteger K)) : FnOk P w K mg base CX0 2 f fd pm_Steps_contains (spIn K A) := by
  refine F.ok sc_Steps_contains (fun vs H Q E h => ?_) (fun cdv A' outer sh H vs Q E hr h => ?_)
  · obtain ⟨_, _, _, _, rfl, _⟩ := h
    rfl
  · obtain ⟨s, bs, v, d, rfl, ⟨dx, pb, hs, hb⟩, hd, q⟩ := h
    refine ⟨_, pss_one (ps_ret (pe_and (pe_own O_is_integer (hr.mono (by decide)) pass0 (pa_cons (pv 1) pa_nil)) (pe_one (pe_cmpR op_in_seq (pv 1) (pe_fld (pv 0) rfl) (by with_unfolding_all rfl))))), ?_⟩
    refine ⟨v, rfl, v, d, rfl, hd, _, rfl, ?_⟩
    cases h1 : (isIntD d && !isBoolD d) with
    | false =>
      rw [show conD bs d = false from by cases d <;> first | rfl | cases h1] at q
      exact iteF q
    | true =>
      obtain ⟨n, rfl⟩ := int_yes h1
      obtain rfl := dp_int hd
      refine iteT ⟨_, rfl, _, rfl, s, A.Steps, dx, _, _, rfl, hs, T.Steps.cl, T.s_bounds, rfl, pb, _, rfl, .inr hb, rfl, flat_ints, ?_⟩
      rw [inV_ints]
      exact q
def spLe (K : PySem.W.Frag) (A : Ad) : Sp := fun vs H Q _ => ∃ (s : Addr) (bs : List Int) (v : V), vs = [.ref s, v] ∧ StAt K A H s bs ∧ OkB bs ∧ ((∃ s2 os, v = .ref s2 ∧ StAt K A H s2 os ∧ OkB os ∧ ∀ H', Ext H H' → Q (.bl (under bs os)) H') ∨ ∃ d, Dp K H v d ∧ Q (.bl false) H)
theorem ok_le {f : Addr} {fd : FuncData} (F : Fun K "__le__" "Steps.__le__" s_Steps_le f fd) (T : Txt K mg A) (O_are_under : Own P w K mg base CX0 "are_under" 2 pm_are_under (spUnder K)) : FnOk P w K mg base CX0 3 f fd pm_Steps_le (spLe K A) := by
  refine F.ok sc_Steps_le (fun vs H Q E h => ?_) (fun cdv A' outer sh H vs Q E hr h => ?_)
  · obtain ⟨_, _, _, rfl, _⟩ := h
    rfl
  · obtain ⟨s, bs, v, rfl, ⟨dx, pb, hs, hb⟩, g, h⟩ := h
    refine ⟨_, pss_one (ps_ret (pe_and (pe_callB call_isi (by rfl) T.n_isinstance (by decide +kernel) (pa_cons (pv 1) (pa_cons (pe_gcls T.Steps.gC) pa_nil))) (pe_one (pe_own O_are_under (hr.mono (by decide)) pass0 (pa_cons (pe_fld (pv 0) rfl) (pa_cons (pe_fld (pv 1) rfl) pa_nil)))))), ?_⟩
    rcases h with ⟨s2, os, rfl, ⟨dy, pc, hs2, hb2⟩, g2, k⟩ | ⟨d, hd, k⟩
    · refine ⟨_, rfl, _, .ref A.Steps, .ref A.Steps, .ref A.Steps, true, rfl, .own _, T.Steps.tyOf hs2, T.Steps.me, _, rfl, ?_⟩
      exact iteT ⟨_, rfl, s, A.Steps, dx, _, _, rfl, hs, T.Steps.cl, T.s_bounds, rfl, _, rfl, s2, A.Steps, dy, _, _, rfl, hs2, T.Steps.cl, T.s_bounds, rfl, pb, pc, bs, os, rfl, hb, hb2, g, g2, k⟩
    · refine ⟨_, rfl, _, .ref A.Steps, .type (tnD d), .ref A.Steps, false, rfl, .own _, dp_ty hd, T.Steps.kitB (sub_ty_ref kd_find) rfl, _, rfl, ?_⟩
      exact iteF k
def spEq (K : PySem.W.Frag) (A : Ad) : Sp := fun vs H Q _ => ∃ (s : Addr) (bs : List Int) (v : V), vs = [.ref s, v] ∧ StAt K A H s bs ∧ ((∃ s2 os, v = .ref s2 ∧ StAt K A H s2 os ∧ Q (.bl (decide (bs = os))) H) ∨ ∃ d, Dp K H v d ∧ Q (.bl false) H)
theorem ok_eq {f : Addr} {fd : FuncData} (F : Fun K "__eq__" "Steps.__eq__" s_Steps_eq f fd) (T : Txt K mg A) : FnOk P w K mg base CX0 1 f fd pm_Steps_eq (spEq K A) := by
  refine F.ok sc_Steps_eq (fun vs H Q E h => ?_) (fun cdv A' outer sh H vs Q E hr h => ?_)
  · obtain ⟨_, _, _, rfl, _⟩ := h
    rfl
  · obtain ⟨s, bs, v, rfl, ⟨dx, pb, hs, hb⟩, h⟩ := h
    refine ⟨_, pss_one (ps_ret (pe_and (pe_callB call_isi (by rfl) T.n_isinstance (by decide +kernel) (pa_cons (pv 1) (pa_cons (pe_gcls T.Steps.gC) pa_nil))) (pe_one (pe_cmpR (op_eqD hr.units) (pe_fld (pv 0) rfl) (pe_fld (pv 1) rfl) (nomark _))))), ?_⟩
    rcases h with ⟨s2, os, rfl, ⟨dy, pc, hs2, hb2⟩, k⟩ | ⟨d, hd, k⟩
    · refine ⟨_, rfl, _, .ref A.Steps, .ref A.Steps, .ref A.Steps, true, rfl, .own _, T.Steps.tyOf hs2, T.Steps.me, _, rfl, ?_⟩
      refine iteT ⟨_, rfl, s, A.Steps, dx, _, _, rfl, hs, T.Steps.cl, T.s_bounds, rfl, _, rfl, s2, A.Steps, dy, _, _, rfl, hs2, T.Steps.cl, T.s_bounds, rfl, eqD_tup hb hb2 fl_ints fl_ints ?_⟩
      rw [eqv_ints]
      exact k
    · refine ⟨_, rfl, _, .ref A.Steps, .type (tnD d), .ref A.Steps, false, rfl, .own _, dp_ty hd, T.Steps.kitB (sub_ty_ref kd_find) rfl, _, rfl, ?_⟩
      exact iteF k
end
end K08

set_option Elab.async false
set_option maxRecDepth 100000
set_option maxHeartbeats 4000000
namespace K08
open PySem PySem.Spec PyProof.Rows L2
theorem okB_add {bs ns : List Int} {n : Int} (g : OkB bs) (hl : bs.length < 4) (h1 : 1 ≤ n) (h2 : n ≤ 60) (hn : n ∉ bs) (hp : ns.Perm (bs ++ [n])) (hs : ns.Pairwise (· ≤ ·)) : OkB ns := by
  have hlen := hp.length_eq
  rw [List.length_append] at hlen
  refine ⟨by rw [hlen]; exact Nat.le_add_left _ _, by rw [hlen]; exact hl, fun b hb => ?_, ?_⟩
  · rcases List.mem_append.mp (hp.mem_iff.mp hb) with h | h
    · exact g.2.2.1 b h
    · rw [List.mem_singleton.mp h]
      exact ⟨h1, h2⟩
  · have hnd : (bs ++ [n]).Nodup := by
      refine List.nodup_append.mpr ⟨g.2.2.2.imp fun {a b} h => by omega, List.pairwise_singleton _ _, fun a ha b hb => ?_⟩
      rw [List.mem_singleton.mp hb]
      exact fun e => hn (e ▸ ha)
    have hnd2 : ns.Nodup := hp.nodup_iff.mpr hnd
    exact (hs.and hnd2).imp fun {a b} h => by have := h.1; have := h.2; omega
section
variable {P : Program} {w : World} {K : PySem.W.Frag} {mg : Str → Option Value} {base : Heap} {A : Ad}
theorem dps_ints {H : Hp} {ns : List Int} : DpAll K H (ns.map V.int) (ns.map PyData.int) := by
  rw [← ints_pd]
  exact dp_all fl_ints
theorem mk_steps {H1 : Hp} {v : V} {d : PyData} {bs : List Int} {R : VK} {E : XK} {x0 dx : Addr} (hx0 : H1 x0 = none) (hdx : H1 dx = none) (hne : dx ≠ x0) (hv : Dp K H1 v d) (hd : d = .list (bs.map .int) ∨ d = .tuple (bs.map .int)) (g : OkB bs)
    (q : ∀ H', Ext H1 H' → StAt K A H' x0 bs → R .non H') : spStepsInit K A [.ref x0, v] (upd (upd H1 dx (.own x0)) x0 (.ins A.Steps dx [])) R E := by
  have e0 := (Ext.upd (o := .own x0) hdx).upd' (o := .ins A.Steps dx []) (by rw [upd_ne hne.symm]; exact hx0)
  have hb : inN (some d) = true := by
    have h1 := g.1
    have h2 := g.2.1
    have : inN (some d) = (decide ((1 : Int) ≤ ((bs.map PyData.int).length : Int)) && decide (((bs.map PyData.int).length : Int) ≤ 4)) := by rcases hd with rfl | rfl <;> rfl
    rw [this, List.length_map, decide_eq_true (by omega), decide_eq_true (by omega)]
    rfl
  refine ⟨x0, dx, v, some d, rfl, upd_same, .dat (dp_ext e0 _ _ hv), fun z => (by rw [hb] at z; cases z), fun ds hds _ => ?_⟩
  have he : ds = bs.map .int := by
    rcases hd with rfl | rfl <;> rcases hds with h | h <;> cases h <;> rfl
  subst he
  refine ⟨fun i hi _ hbad => ?_, fun bs' he g' H' hst hk => q H' (fun x o h => ?_) ?_⟩
  · rw [List.length_map] at hi
    rw [all_ok g hi] at hbad
    cases hbad
  · have hx : x ≠ x0 := ne_of_none h hx0
    refine hk x o hx ?_
    exact e0 _ _ h
  · have : bs = bs' := by
      have h := congrArg (List.filterMap fun d => match d with | PyData.int s => some s | _ => none) he
      rw [List.filterMap_map, List.filterMap_map] at h
      have z : ∀ l : List Int, l.filterMap ((fun d => match d with | PyData.int s => some s | _ => none) ∘ PyData.int) = l := fun l => List.filterMap_some
      rw [z, z] at h
      exact h
    rw [this]
    exact hst
def spAdd (K : PySem.W.Frag) (A : Ad) : Sp := fun vs H Q E => ∃ (s : Addr) (bs : List Int) (v : V) (d : PyData), vs = [.ref s, v] ∧ StAt K A H s bs ∧ OkB bs ∧ Dp K H v d ∧ ((betD d 1 60 = false ∨ conD bs d = true) → ErrN A E H v) ∧ (betD d 1 60 = true → conD bs d = false → bs.length = 4 → ErrM A E H) ∧
  ∀ n, d = .int n → 1 ≤ n → n ≤ 60 → n ∉ bs → bs.length < 4 → ∀ ns s2 H', ns.Perm (bs ++ [n]) → ns.Pairwise (· ≤ ·) → Ext H H' → StAt K A H' s2 ns → Q (.ref s2) H'
theorem ok_add {f : Addr} {fd : FuncData} (F : Fun K "__add__" "Steps.__add__" s_Steps_add f fd) (T : Txt K mg A) (O_is_between : Own P w K mg base CX0 "is_between" 2 pm_is_between (spBetween K)) (O_Steps : OwnC P w K mg base (L2.CX P w) "Steps" A.Steps 3 pm_Steps_init (spStepsInit K A)) (X_BadNumber : XCls P w K mg base "BadNumber" "number" A.BadNumber) (X_TooMany : OCls P w K mg base "TooMany" "limit" A.TooMany) : FnOk P w K mg base (L2.CX P w) 5 f fd pm_Steps_add (spAdd K A) := by
  refine F.okX sc_Steps_add (fun vs H Q E h => ?_) (fun cdv A' outer sh H vs Q E hr h => ?_)
  · obtain ⟨_, _, _, _, rfl, _⟩ := h
    rfl
  · obtain ⟨s, bs, v, d, rfl, ⟨dx, pb, hs, hb⟩, g, hd, q1, q2, q3⟩ := h
    refine ⟨_, pss_cons (ps_if (PW.pt (pw_or (pt_not (pt_val (pe_own O_is_between (hr.mono (by decide)) pass0 (pa_cons (pv 1) (pa_cons (pe_int) (pa_cons (pe_gint T.g_MOST_UNITS) pa_nil)))))) (pw_or1 (pt_cmpR op_in_seq (pv 1) (pe_fld (pv 0) rfl) (by with_unfolding_all rfl))))) (pss_one (ps_raise rfl (takes_of rfl rfl rfl rfl) (pmk_X X_BadNumber (hr.mono (by decide)) (pv 1) rfl))) (pss_nil))
      (pss_cons (ps_if (pt_cmpR op_eq (pe_callB call_len_seq (by rfl) T.n_len (by decide +kernel) (pa_cons (pe_fld (pv 0) rfl) pa_nil)) (pe_gint T.g_MOST_BOUNDS) (nomark _)) (pss_one (ps_raise rfl (takes_of rfl rfl rfl rfl) (pmk_O X_TooMany (hr.mono (by decide)) (pe_gint T.g_MOST_BOUNDS) rfl))) (pss_nil))
      (pss_one (ps_ret (pe_new O_Steps (hr.mono (by decide)) passL (pa_cons (pe_callB cr_sortedI (by rfl) T.n_sorted (by decide +kernel) (pa_cons (pe_lc (own := [("told", 2)]) (g := gName 2) (by rfl) sc_Steps_add.nd (pi_tup (pe_tup (StX.pa_star (pe_fld (pv 0) rfl) (pa_cons (pv 1) pa_nil)))) (blkOk_by (own := [("told", 2)]) (N := nm_Steps_add) (sc := defScope s_Steps_add) (by decide +kernel)) (fun _ _ _ _ _ => pg_name (i := 2) sc_Steps_add.nd rfl (Or.inl rfl)) (fun s1 H1 C1 cl fp => pts_nil) (fun s1 H1 C1 cl fp => pe_callTy call_int1 (by rfl) T.n_int (by decide +kernel) (pa_cons (pv 2) pa_nil))) pa_nil)) pa_nil))))), ?_⟩
    refine ⟨v, rfl, v, d, 1, 60, rfl, hd, _, rfl, ?_⟩
    cases h1 : betD d 1 60 with
    | false => exact iteT ⟨_, rfl, mkX_fin fun e he => q1 (.inl h1) _ Ext.rfl' e he⟩
    | true =>
      obtain ⟨n, rfl, n1, n2⟩ := bet_yes h1
      obtain rfl := dp_int hd
      refine iteF ⟨_, rfl, _, rfl, s, A.Steps, dx, _, _, rfl, hs, T.Steps.cl, T.s_bounds, rfl, pb, _, rfl, .inr hb, rfl, flat_ints, _, rfl, ?_⟩
      rw [inV_ints]
      by_cases hn : n ∈ bs
      · rw [decide_eq_true hn]
        exact iteT ⟨_, rfl, mkX_fin fun e he => q1 (.inr (decide_eq_true hn)) _ Ext.rfl' e he⟩
      · rw [decide_eq_false hn]
        refine iteF ⟨_, rfl, s, A.Steps, dx, _, _, rfl, hs, T.Steps.cl, T.s_bounds, rfl, pb, _, rfl, .inr hb, rfl, _, rfl, ?_⟩
        rw [dvi, List.length_map]
        by_cases h4 : bs.length = 4
        · rw [decide_eq_true (show ((bs.length : Nat) : Int) = 4 by omega)]
          exact iteT (mkX_fin fun e he => q2 h1 (decide_eq_false hn) h4 _ Ext.rfl' e he)
        · rw [decide_eq_false (show ¬ ((bs.length : Nat) : Int) = 4 by omega)]
          have hl : bs.length < 4 := by have := g.2.1; omega
          refine iteF ⟨_, rfl, s, A.Steps, dx, _, _, rfl, hs, T.Steps.cl, T.s_bounds, rfl, pb, _, rfl, .inl hb, _, rfl, ?_⟩
          refine ⟨by show (bs.map V.int ++ [V.int n]).length ≤ sizeLine; exact Nat.le_of_lt (small_sz (by rw [List.length_append, List.length_map]; show bs.length + 1 ≤ _; omega)), fun t ht => ⟨t, rfl, ⟨_, SqT.of upd_same⟩, fun C hC => ?_⟩⟩
          have et := Ext.upd (o := .tup (bs.map V.int ++ [V.int n])) ht
          have ht2 : L2.upd H t (.tup (bs.map V.int ++ [V.int n])) t = some (.tup (bs.map V.int ++ [V.int n])) := upd_same
          have hmm : bs.map V.int ++ [V.int n] = (bs ++ [n]).map V.int := by
            rw [List.map_append]
            rfl
          rw [hmm] at ht2 et hC ⊢
          generalize L2.upd H t (.tup ((bs ++ [n]).map V.int)) = H1 at ht2 et hC ⊢
          refine lc_it (walk_tup (xs := (bs ++ [n]).map V.int)) (fun m H5 => Ext H1 H5 ∧ H5 C = some (.lst (((bs ++ [n]).take m).map V.int))) ⟨Ext.upd hC, upd_same⟩ (fun m H5 _ pv => SqT.of (pv.1 _ _ ht2)) (fun m z Hx H5 hi pv hyy => ?_) (fun H5 pv => ?_)
          · obtain ⟨e4, hC4⟩ := pv
            obtain ⟨rfl, hz⟩ := hyy
            replace hz : ((bs ++ [n]).map V.int)[m]? = some z := hz
            rw [List.getElem?_map] at hz
            obtain ⟨b, hb', rfl⟩ := Option.map_eq_some_iff.mp hz
            refine ⟨rfl, _, rfl, .inl ⟨_, rfl, _, hC4, small_sz (by rw [List.length_map, List.length_take, List.length_append]; show min m (bs.length + 1) ≤ 2000; omega), ext_mut e4 hC, ?_⟩⟩
            rw [upd_same, take_snoc hb', List.map_append]
            rfl
          · obtain ⟨e4, hC4⟩ := pv
            rw [List.take_of_length_le (by rw [List.length_map]; exact Nat.le_refl _)] at hC4
            refine ⟨C, bs ++ [n], rfl, SqL.of hC4, fun ns p hp hs' hp0 => ?_⟩
            refine fun x0 d0 hx0 hdx0 hne => mk_steps hx0 hdx0 hne (.lst (SqL.of upd_same) dps_ints) (.inl rfl) (okB_add g hl n1 n2 hn hp hs') fun H6 e6 hst => ⟨rfl, ?_⟩
            exact q3 n rfl n1 n2 hn hl ns x0 H6 hp hs' ((et.trans e4).trans ((Ext.upd hp0).trans e6)) hst
def spCheckCap (K : PySem.W.Frag) (A : Ad) : Sp := fun vs H Q E => ∃ (v : V) (d : PyData), vs = [v] ∧ Dp K H v d ∧ (betD d 0 99 = false → ErrN A E H v) ∧ (betD d 0 99 = true → Q .non H)
theorem ok_checkCap {f : Addr} {fd : FuncData} (F : Fun K "check_cap" "check_cap" s_check_cap f fd) (T : Txt K mg A) (O_is_between : Own P w K mg base CX0 "is_between" 2 pm_is_between (spBetween K)) (X_BadNumber : XCls P w K mg base "BadNumber" "number" A.BadNumber) : FnOk P w K mg base (L2.CX P w) 3 f fd pm_check_cap (spCheckCap K A) := by
  refine F.okX sc_check_cap (fun vs H Q E h => ?_) (fun cdv A' outer sh H vs Q E hr h => ?_)
  · obtain ⟨_, _, rfl, _⟩ := h
    rfl
  · obtain ⟨v, d, rfl, hd, q1, q2⟩ := h
    refine ⟨_, pss_one (ps_if (pt_not (pt_val (pe_own O_is_between (hr.mono (by decide)) pass0 (pa_cons (pv 0) (pa_cons (pe_int) (pa_cons (pe_gint T.g_MOST_CAP) pa_nil)))))) (pss_one (ps_raise rfl (takes_of rfl rfl rfl rfl) (pmk_X X_BadNumber (hr.mono (by decide)) (pv 0) rfl))) (pss_nil)), ?_⟩
    refine ⟨v, rfl, v, d, 0, 99, rfl, hd, _, rfl, ?_⟩
    cases h1 : betD d 0 99 with
    | false => exact iteT ⟨_, rfl, mkX_fin fun e he => q1 h1 _ Ext.rfl' e he⟩
    | true => exact iteF (q2 h1)
def RmAt (K : PySem.W.Frag) (A : Ad) (H : Hp) (r : Addr) (z : Int) (bs : List Int) : Prop := ∃ dx s, H r = some (.ins A.Room dx [("size", .int z), ("steps", .ref s)]) ∧ StAt K A H s bs
theorem RmAt.ext {H H' : Hp} {r : Addr} {z : Int} {bs : List Int} (h : RmAt K A H r z bs) (e : Ext H H') : RmAt K A H' r z bs := by
  obtain ⟨dx, s, h1, h2⟩ := h
  exact ⟨dx, s, e _ _ h1, h2.ext e⟩
def spRoomInit (K : PySem.W.Frag) (A : Ad) : Sp := fun vs H Q E => ∃ (p dx : Addr) (v u : V) (d : PyData), vs = [.ref p, v, u] ∧ H p = some (.ins A.Room dx []) ∧ Dp K H v d ∧ (betD d 1 60 = false → ErrP A E H "size") ∧
  (betD d 1 60 = true → (∃ d', Dp K H u d' ∧ ErrP A E H "steps") ∨ ∃ s bs z, u = .ref s ∧ StAt K A H s bs ∧ d = .int z ∧ ∀ H', RmAt K A H' p z bs → (∀ x o, x ≠ p → H x = some o → H' x = some o) → Q .non H')
theorem ok_roomInit {f : Addr} {fd : FuncData} (F : Fun K "__init__" "Room.__init__" s_Room_init f fd) (T : Txt K mg A) (O_is_between : Own P w K mg base CX0 "is_between" 2 pm_is_between (spBetween K)) (X_BadPart : XCls P w K mg base "BadPart" "part" A.BadPart) : FnOk P w K mg base (L2.CX P w) 3 f fd pm_Room_init (spRoomInit K A) := by
  refine F.okX sc_Room_init (fun vs H Q E h => ?_) (fun cdv A' outer sh H vs Q E hr h => ?_)
  · obtain ⟨_, _, _, _, _, rfl, _⟩ := h
    rfl
  · obtain ⟨p, dx, v, u, d, rfl, hp, hd, q1, q2⟩ := h
    refine ⟨_, pss_cons (ps_if (pt_not (pt_val (pe_own O_is_between (hr.mono (by decide)) pass0 (pa_cons (pv 1) (pa_cons (pe_int) (pa_cons (pe_gint T.g_MOST_UNITS) pa_nil)))))) (pss_one (ps_raise rfl (takes_of rfl rfl rfl rfl) (pmk_X X_BadPart (hr.mono (by decide)) (pe_str) rfl))) (pss_nil))
      (pss_cons (ps_if (pt_not (pt_val (pe_callB call_isi (by rfl) T.n_isinstance (by decide +kernel) (pa_cons (pv 2) (pa_cons (pe_gcls T.Steps.gC) pa_nil))))) (pss_one (ps_raise rfl (takes_of rfl rfl rfl rfl) (pmk_X X_BadPart (hr.mono (by decide)) (pe_str) rfl))) (pss_nil))
      (pss_cons (ps_fld (pv 0) (pv 1) rfl)
      (pss_one (ps_fld (pv 0) (pv 2) rfl)))), ?_⟩
    refine ⟨v, rfl, v, d, 1, 60, rfl, hd, _, rfl, ?_⟩
    cases h1 : betD d 1 60 with
    | false => exact iteT (mkX_fin fun e he => q1 h1 _ Ext.rfl' e he)
    | true =>
      rcases q2 h1 with ⟨d', hu, q⟩ | ⟨s, bs, z, rfl, ⟨dy, pb, hs, hb⟩, rfl, q⟩
      · refine iteF ⟨_, rfl, u, .ref A.Steps, .type (tnD d'), .ref A.Steps, false, rfl, .own _, dp_ty hu, T.Steps.kitB (sub_ty_ref kd_find) rfl, _, rfl, ?_⟩
        exact iteT (mkX_fin fun e he => q _ Ext.rfl' e he)
      · obtain rfl := dp_int hd
        refine iteF ⟨_, rfl, _, .ref A.Steps, .ref A.Steps, .ref A.Steps, true, rfl, .own _, T.Steps.tyOf hs, T.Steps.me, _, rfl, ?_⟩
        refine iteF ⟨_, rfl, _, rfl, p, A.Room, dx, _, rfl, hp, T.Room.cl, T.r_size, (by show 0 < 1000; decide), ?_⟩
        refine ⟨_, rfl, _, rfl, p, A.Room, dx, _, rfl, upd_same, T.Room.cl, T.r_steps, (by show 1 < 1000; decide), ?_⟩
        rw [upd_upd]
        have hsp : s ≠ p := fun e => by
          rw [e, hp] at hs
          injection hs with hs
          injection hs with _ _ h3
          cases h3
        have hm : ∀ (o : HO) x u, x ≠ p → H x = some u → upd H p o x = some u := fun o x u hx h => by
          rw [upd_ne hx]
          exact h
        exact q _ ⟨dx, s, upd_same, dy, pb, hm _ _ _ hsp hs, sqT_mut hp (hm _) hb⟩ fun x o hx ho => hm _ _ _ hx ho
end
end K08

set_option Elab.async false
set_option maxRecDepth 100000
set_option maxHeartbeats 4000000
namespace K08
open PySem PySem.Spec PyProof.Rows L2
def topN (z : Int) (bs : List Int) (k : Int) : Int := if k = 0 ∨ bs.headD 0 > z then 0 else z - bs.headD 0 + min k (bs.headD 0)
section
variable {P : Program} {w : World} {K : PySem.W.Frag} {mg : Str → Option Value} {base : Heap} {A : Ad}
def spTold (K : PySem.W.Frag) (A : Ad) : Sp := fun vs H Q E => ∃ (r : Addr) (z : Int) (bs : List Int) (v : V) (d : PyData), vs = [.ref r, v] ∧ RmAt K A H r z bs ∧ OkB bs ∧ Dp K H v d ∧ (betD d 0 z = false → ErrN A E H v) ∧ ∀ h, d = .int h → betD d 0 z = true → ∀ H', Ext H H' → Q (.int (told bs (z - h))) H'
theorem ok_told {f : Addr} {fd : FuncData} (F : Fun K "told" "Room.told" s_Room_told f fd) (T : Txt K mg A) (O_is_between : Own P w K mg base CX0 "is_between" 2 pm_is_between (spBetween K)) (O_told_of : Own P w K mg base CX0 "told_of" 1 pm_told_of (spToldOf K)) (X_BadNumber : XCls P w K mg base "BadNumber" "number" A.BadNumber) : FnOk P w K mg base (L2.CX P w) 3 f fd pm_Room_told (spTold K A) := by
  refine F.okX sc_Room_told (fun vs H Q E h => ?_) (fun cdv A' outer sh H vs Q E hr h => ?_)
  · obtain ⟨_, _, _, _, _, rfl, _⟩ := h
    rfl
  · obtain ⟨r, z, bs, v, d, rfl, ⟨dx, s, hR, dy, pb, hs, hb⟩, g, hd, q1, q2⟩ := h
    refine ⟨_, pss_cons (ps_if (pt_not (pt_val (pe_own O_is_between (hr.mono (by decide)) pass0 (pa_cons (pv 1) (pa_cons (pe_int) (pa_cons (pe_fld (pv 0) rfl) pa_nil)))))) (pss_one (ps_raise rfl (takes_of rfl rfl rfl rfl) (pmk_X X_BadNumber (hr.mono (by decide)) (pv 1) rfl))) (pss_nil))
      (pss_one (ps_ret (pe_own O_told_of (hr.mono (by decide)) pass0 (pa_cons (pe_fld (pe_fld (pv 0) rfl) rfl) (pa_cons (pe_op op_sub (pe_fld (pv 0) rfl) (pv 1)) pa_nil))))), ?_⟩
    refine ⟨v, rfl, _, rfl, r, A.Room, dx, _, _, rfl, hR, T.Room.cl, T.r_size, rfl, v, d, 0, z, rfl, hd, _, rfl, ?_⟩
    cases h1 : betD d 0 z with
    | false => exact iteT ⟨_, rfl, mkX_fin fun e he => q1 h1 _ Ext.rfl' e he⟩
    | true =>
      obtain ⟨n, rfl, n1, n2⟩ := bet_yes h1
      obtain rfl := dp_int hd
      exact iteF ⟨_, rfl, r, A.Room, dx, _, _, rfl, hR, T.Room.cl, T.r_steps, rfl, s, A.Steps, dy, _, _, rfl, hs, T.Steps.cl, T.s_bounds, rfl, _, rfl, r, A.Room, dx, _, _, rfl, hR, T.Room.cl, T.r_size, rfl, _, rfl, _, _, rfl, rfl, pb, bs, _, rfl, hb, g, q2 n rfl h1⟩
def spReach (K : PySem.W.Frag) (A : Ad) : Sp := fun vs H Q E => ∃ (r : Addr) (z : Int) (bs : List Int) (v c : V) (d dc : PyData), vs = [.ref r, v, c] ∧ RmAt K A H r z bs ∧ OkB bs ∧ Dp K H v d ∧ Dp K H c dc ∧ (betD d 0 z = false → ErrN A E H v) ∧ (betD d 0 z = true → betD dc 0 99 = false → ErrN A E H c) ∧
  ∀ h k, d = .int h → dc = .int k → betD d 0 z = true → betD dc 0 99 = true → ∀ H', Ext H H' → Q (.int (min k (told bs (z - h)))) H'
theorem ok_reach {f : Addr} {fd : FuncData} (F : Fun K "reach" "Room.reach" s_Room_reach f fd) (T : Txt K mg A) (O_Room_told : OwnM P w K mg base (L2.CX P w) A.Room "told" 3 pm_Room_told (spTold K A)) (O_check_cap : Own P w K mg base (L2.CX P w) "check_cap" 3 pm_check_cap (spCheckCap K A)) (O_lesser : Own P w K mg base CX0 "lesser" 1 pm_lesser spLesser) : FnOk P w K mg base (L2.CX P w) 4 f fd pm_Room_reach (spReach K A) := by
  refine F.okX sc_Room_reach (fun vs H Q E h => ?_) (fun cdv A' outer sh H vs Q E hr h => ?_)
  · obtain ⟨_, _, _, _, _, _, _, rfl, _⟩ := h
    rfl
  · obtain ⟨r, z, bs, v, c, d, dc, rfl, hRm, g, hd, hc, q1, q2, q3⟩ := h
    obtain ⟨dx, s, hR, _⟩ := id hRm
    refine ⟨_, pss_cons (ps_set (i := 3) sc_Room_reach.nd rfl (Or.inl rfl) (pe_ownMS O_Room_told (pv 0) T.Room.cl (hr.mono (by decide)) (takes_of rfl rfl rfl rfl) (pa_cons (pv 1) pa_nil)))
      (pss_cons (ps_expr (pe_ownS O_check_cap (hr.mono (by decide)) (takes_of rfl rfl rfl rfl) (pa_cons (pv 2) pa_nil)))
      (pss_one (ps_ret (pe_own O_lesser (hr.mono (by decide)) pass0 (pa_cons (pv 2) (pa_cons (pv 3) pa_nil)))))), ?_⟩
    refine ⟨_, rfl, r, dx, _, rfl, hR, rfl, v, rfl, r, z, bs, v, d, rfl, hRm, g, hd, q1, fun h he h1 H1 e1 => ?_⟩
    refine ⟨c, rfl, c, dc, rfl, dp_ext e1 _ _ hc, fun h2 H2 e2 => q2 h1 h2 H2 (e1.trans e2), fun h2 => ?_⟩
    obtain ⟨k, rfl, _, _⟩ := bet_yes h2
    obtain rfl := dp_int hc
    exact ⟨_, rfl, _, rfl, _, _, rfl, q3 h k he rfl h1 h2 H1 e1⟩
def spTop (K : PySem.W.Frag) (A : Ad) : Sp := fun vs H Q E => ∃ (r : Addr) (z : Int) (bs : List Int) (c : V) (dc : PyData), vs = [.ref r, c] ∧ RmAt K A H r z bs ∧ OkB bs ∧ Dp K H c dc ∧ (betD dc 0 99 = false → ErrN A E H c) ∧ ∀ k, dc = .int k → betD dc 0 99 = true → Q (.int (topN z bs k)) H
theorem ok_top {f : Addr} {fd : FuncData} (F : Fun K "top" "Room.top" s_Room_top f fd) (T : Txt K mg A) (O_check_cap : Own P w K mg base (L2.CX P w) "check_cap" 3 pm_check_cap (spCheckCap K A)) (O_lesser : Own P w K mg base CX0 "lesser" 1 pm_lesser spLesser) : FnOk P w K mg base (L2.CX P w) 4 f fd pm_Room_top (spTop K A) := by
  refine F.okX sc_Room_top (fun vs H Q E h => ?_) (fun cdv A' outer sh H vs Q E hr h => ?_)
  · obtain ⟨_, _, _, _, _, rfl, _⟩ := h
    rfl
  · obtain ⟨r, z, bs, c, dc, rfl, ⟨dx, s, hR, dy, pb, hs, hb⟩, g, hc, q1, q2⟩ := h
    refine ⟨_, pss_cons (ps_expr (pe_ownS O_check_cap (hr.mono (by decide)) (takes_of rfl rfl rfl rfl) (pa_cons (pv 1) pa_nil)))
      (pss_cons (ps_set (i := 2) sc_Room_top.nd rfl (Or.inl rfl) (pe_ix ix_tup (pe_fld (pe_fld (pv 0) rfl) rfl) (pe_int) (fun _ _ => rfl)))
      (pss_cons (ps_if (PW.pt (pw_or (pt_cmpR op_eq (pv 1) (pe_int) (nomark _)) (pw_or1 (pt_cmpR op_gt (pv 2) (pe_fld (pv 0) rfl) (nomark _))))) (pss_one (ps_ret (pe_int))) (pss_nil))
      (pss_one (ps_ret (pe_op op_add (pe_op op_sub (pe_fld (pv 0) rfl) (pv 2)) (pe_own O_lesser (hr.mono (by decide)) pass0 (pa_cons (pv 1) (pa_cons (pv 2) pa_nil)))))))), ?_⟩
    refine ⟨c, rfl, c, dc, rfl, hc, q1, fun h2 => ?_⟩
    obtain ⟨k, rfl, k0, k1⟩ := bet_yes h2
    obtain rfl := dp_int hc
    have q := q2 k rfl h2
    clear q1 q2
    cases bs with
    | nil => exact absurd g.1 (by decide)
    | cons b bs =>
      refine ⟨_, rfl, r, A.Room, dx, _, _, rfl, hR, T.Room.cl, T.r_steps, rfl, s, A.Steps, dy, _, _, rfl, hs, T.Steps.cl, T.s_bounds, rfl, pb, _, (0 : Int), .int b, rfl, rfl, hb, atI_nat (j := 0) rfl, ?_⟩
      refine ⟨_, rfl, rfl, _, rfl, ?_⟩
      rw [dvi]
      unfold topN at q
      rw [show (b :: bs).headD 0 = b from rfl] at q
      by_cases hk : k = 0
      · rw [decide_eq_true hk]
        rw [if_pos (.inl hk)] at q
        exact iteT q
      · rw [decide_eq_false hk]
        refine iteF ⟨_, rfl, _, rfl, r, A.Room, dx, _, _, rfl, hR, T.Room.cl, T.r_size, rfl, _, _, rfl, rfl, _, rfl, ?_⟩
        by_cases hz : b > z
        · rw [decide_eq_true hz]
          rw [if_pos (.inr hz)] at q
          exact iteT q
        · rw [decide_eq_false hz]
          rw [if_neg (fun h => h.elim hk hz)] at q
          exact iteF ⟨_, rfl, r, A.Room, dx, _, _, rfl, hR, T.Room.cl, T.r_size, rfl, _, rfl, _, _, rfl, rfl, _, rfl, _, rfl, _, _, rfl, _, _, rfl, rfl, q⟩
def spRmLe (K : PySem.W.Frag) (A : Ad) : Sp := fun vs H Q _ => ∃ (r : Addr) (z : Int) (bs : List Int) (v : V), vs = [.ref r, v] ∧ RmAt K A H r z bs ∧ OkB bs ∧ ((∃ r2 z2 os, v = .ref r2 ∧ RmAt K A H r2 z2 os ∧ OkB os ∧ ∀ H', Ext H H' → Q (.bl (decide (z ≤ z2) && under bs os)) H') ∨ ∃ d, Dp K H v d ∧ Q (.bl false) H)
theorem ok_rmle {f : Addr} {fd : FuncData} (F : Fun K "__le__" "Room.__le__" s_Room_le f fd) (T : Txt K mg A) (O_Steps_le : OwnM P w K mg base CX0 A.Steps "__le__" 3 pm_Steps_le (spLe K A)) : FnOk P w K mg base CX0 4 f fd pm_Room_le (spRmLe K A) := by
  refine F.ok sc_Room_le (fun vs H Q E h => ?_) (fun cdv A' outer sh H vs Q E hr h => ?_)
  · obtain ⟨_, _, _, _, rfl, _⟩ := h
    rfl
  · obtain ⟨r, z, bs, v, rfl, ⟨dx, s, hR, hS⟩, g, h⟩ := h
    refine ⟨_, pss_cons (ps_if (pt_not (pt_val (pe_callB call_isi (by rfl) T.n_isinstance (by decide +kernel) (pa_cons (pv 1) (pa_cons (pe_gcls T.Room.gC) pa_nil))))) (pss_one (ps_ret (pe_bl))) (pss_nil))
      (pss_one (ps_ret (pe_and (pe_cmpR op_le (pe_fld (pv 0) rfl) (pe_fld (pv 1) rfl) (nomark _)) (pe_one (pe_cmpR (leO O_Steps_le (hr.mono (by decide)) pass0) (pe_fld (pv 0) rfl) (pe_fld (pv 1) rfl) (nomark _)))))), ?_⟩
    rcases h with ⟨r2, z2, os, rfl, ⟨dy, s2, hR2, hS2⟩, g2, k⟩ | ⟨d, hd, k⟩
    · refine ⟨_, rfl, _, .ref A.Room, .ref A.Room, .ref A.Room, true, rfl, .own _, T.Room.tyOf hR2, T.Room.me, _, rfl, ?_⟩
      refine iteF ⟨_, rfl, r, A.Room, dx, _, _, rfl, hR, T.Room.cl, T.r_size, rfl, _, rfl, r2, A.Room, dy, _, _, rfl, hR2, T.Room.cl, T.r_size, rfl, _, _, rfl, rfl, _, rfl, ?_⟩
      by_cases hz : z ≤ z2
      · rw [decide_eq_true hz] at k ⊢
        obtain ⟨ex, pc, hs2, hb2⟩ := id hS2
        obtain ⟨ey, pb, hs, hb⟩ := id hS
        exact iteT ⟨_, rfl, r, A.Room, dx, _, _, rfl, hR, T.Room.cl, T.r_steps, rfl, _, rfl, r2, A.Room, dy, _, _, rfl, hR2, T.Room.cl, T.r_steps, rfl, s, ey, _, _, rfl, hs, T.Steps.tyOf hs2, T.Steps.nfMe, s, bs, _, rfl, hS, g, .inl ⟨s2, os, rfl, hS2, g2, fun H' e => ⟨_, rfl, k H' e⟩⟩⟩
      · rw [decide_eq_false hz] at k ⊢
        exact iteF (k _ Ext.rfl')
    · refine ⟨_, rfl, _, .ref A.Room, .type (tnD d), .ref A.Room, false, rfl, .own _, dp_ty hd, T.Room.kitB (sub_ty_ref kd_find) rfl, _, rfl, ?_⟩
      exact iteT k
def spRmEq (K : PySem.W.Frag) (A : Ad) : Sp := fun vs H Q _ => ∃ (r : Addr) (z : Int) (bs : List Int) (v : V), vs = [.ref r, v] ∧ RmAt K A H r z bs ∧ ((∃ r2 z2 os, v = .ref r2 ∧ RmAt K A H r2 z2 os ∧ Q (.bl (decide (z = z2) && decide (bs = os))) H) ∨ ∃ d, Dp K H v d ∧ Q (.bl false) H)
theorem ok_rmeq {f : Addr} {fd : FuncData} (F : Fun K "__eq__" "Room.__eq__" s_Room_eq f fd) (T : Txt K mg A) (O_Steps_eq : OwnM P w K mg base CX0 A.Steps "__eq__" 1 pm_Steps_eq (spEq K A)) : FnOk P w K mg base CX0 2 f fd pm_Room_eq (spRmEq K A) := by
  refine F.ok sc_Room_eq (fun vs H Q E h => ?_) (fun cdv A' outer sh H vs Q E hr h => ?_)
  · obtain ⟨_, _, _, _, rfl, _⟩ := h
    rfl
  · obtain ⟨r, z, bs, v, rfl, ⟨dx, s, hR, hS⟩, h⟩ := h
    refine ⟨_, pss_one (ps_ret (pe_and (pe_callB call_isi (by rfl) T.n_isinstance (by decide +kernel) (pa_cons (pv 1) (pa_cons (pe_gcls T.Room.gC) pa_nil))) (pe_and (pe_cmpR op_eq (pe_fld (pv 0) rfl) (pe_fld (pv 1) rfl) (nomark _)) (pe_one (pe_cmpR (eqO O_Steps_eq T.Steps.neM (hr.mono (by decide)) pass0) (pe_fld (pv 0) rfl) (pe_fld (pv 1) rfl) (nomark _)))))), ?_⟩
    rcases h with ⟨r2, z2, os, rfl, ⟨dy, s2, hR2, hS2⟩, k⟩ | ⟨d, hd, k⟩
    · refine ⟨_, rfl, _, .ref A.Room, .ref A.Room, .ref A.Room, true, rfl, .own _, T.Room.tyOf hR2, T.Room.me, _, rfl, ?_⟩
      refine iteT ⟨_, rfl, r, A.Room, dx, _, _, rfl, hR, T.Room.cl, T.r_size, rfl, _, rfl, r2, A.Room, dy, _, _, rfl, hR2, T.Room.cl, T.r_size, rfl, rfl, _, rfl, ?_⟩
      rw [dvi]
      by_cases hz : z = z2
      · rw [decide_eq_true hz] at k ⊢
        obtain ⟨ex, pc, hs2, hb2⟩ := id hS2
        obtain ⟨ey, pb, hs, hb⟩ := id hS
        exact iteT ⟨_, rfl, r, A.Room, dx, _, _, rfl, hR, T.Room.cl, T.r_steps, rfl, _, rfl, r2, A.Room, dy, _, _, rfl, hR2, T.Room.cl, T.r_steps, rfl, s, ey, _, _, rfl, hs, T.Steps.tyOf hs2, T.Steps.nfMe, s, bs, _, rfl, hS, .inl ⟨s2, os, rfl, hS2, _, rfl, k⟩⟩
      · rw [decide_eq_false hz] at k ⊢
        exact iteF k
    · refine ⟨_, rfl, _, .ref A.Room, .type (tnD d), .ref A.Room, false, rfl, .own _, dp_ty hd, T.Room.kitB (sub_ty_ref kd_find) rfl, _, rfl, ?_⟩
      exact iteF k
end
end K08

set_option Elab.async false
set_option maxRecDepth 100000
set_option maxHeartbeats 4000000
namespace K08
open PySem PySem.Spec PyProof.Rows L2
/-! ### the state that is drawn from: a list of four numbers -/
def StB (H : Hp) (b : Addr) : Prop := ∃ x0 x1 x2 x3 : Int, H b = some (.lst [.int x0, .int x1, .int x2, .int x3])
def ExtB (b : Addr) (H H' : Hp) : Prop := ∀ x o, x ≠ b → H x = some o → H' x = some o
theorem ExtB.rfl' {b : Addr} {H : Hp} : ExtB b H H := fun _ _ _ h => h
theorem ExtB.trans {b : Addr} {H H1 H2 : Hp} (a : ExtB b H H1) (c : ExtB b H1 H2) : ExtB b H H2 := fun x o h1 e => c x o h1 (a x o h1 e)
theorem Ext.b {b : Addr} {H H' : Hp} (h : Ext H H') : ExtB b H H' := fun x o _ e => h x o e
theorem StB.ext {b : Addr} {H H' : Hp} (h : StB H b) (e : Ext H H') : StB H' b := by
  obtain ⟨x0, x1, x2, x3, hb⟩ := h
  exact ⟨x0, x1, x2, x3, e _ _ hb⟩
theorem StB.new {b l : Addr} {H : Hp} (h : StB H b) (hl : H l = none) : l ≠ b := by
  obtain ⟨x0, x1, x2, x3, hb⟩ := h
  exact (ne_of_none hb hl).symm
theorem StB.upd {b l : Addr} {H : Hp} {o : HO} (h : StB H b) (hb : l ≠ b) : StB (L2.upd H l o) b := by
  obtain ⟨x0, x1, x2, x3, h1⟩ := h
  exact ⟨x0, x1, x2, x3, by rw [upd_ne hb.symm]; exact h1⟩
theorem ExtB.mut {b l : Addr} {H H' : Hp} {o : HO} (e : ExtB b H H') (hl : H l = none) : ExtB b H (L2.upd H' l o) := fun x u h1 h => by
  rw [upd_ne (ne_of_none h hl)]
  exact e x u h1 h
theorem ExtB.none {b t : Addr} {H H' : Hp} (e : ExtB b H H') (h1 : t ≠ b) (h : H' t = none) : H t = none := by
  cases z : H t with
  | none => rfl
  | some o =>
    rw [e t o h1 z] at h
    cases h
theorem ExtB.set {b : Addr} {H : Hp} {o : HO} : ExtB b H (L2.upd H b o) := fun x u h1 h => by
  rw [upd_ne h1]
  exact h
theorem sqL_b {K : PySem.W.Frag} {a b : Addr} {H H' : Hp} {xs : List V} (h : SqL K H a xs) (n : a = b → ∀ H', SqL K H' a xs) (e : ExtB b H H') : SqL K H' a xs := by
  by_cases hab : a = b
  · exact n hab _
  · exact h.elim (fun h => .inl (h.elim (fun h => .inl (e _ _ hab h)) fun ⟨o, h⟩ => .inr ⟨o, e _ _ hab h⟩)) fun h => .inr h
theorem sqL_new {K : PySem.W.Frag} {a b : Addr} {H : Hp} {xs : List V} (h : SqL K H a xs) (hb : H b = none) : a = b → ∀ H', SqL K H' a xs := by
  rintro rfl H'
  rcases h with (h | ⟨o, h⟩) | h
  · rw [hb] at h
    cases h
  · rw [hb] at h
    cases h
  · exact .inr h
section
variable {P : Program} {w : World} {K : PySem.W.Frag} {mg : Str → Option Value} {base : Heap} {A : Ad}
def spStart (K : PySem.W.Frag) : Sp := fun vs H Q _ => ∃ (a : Addr) (ns : List Int), vs = [.ref a] ∧ SqL K H a (ns.map V.int) ∧ ns.length ≤ 63 ∧ ∀ b H', H b = none → StB H' b → Ext H H' → Q (.ref b) H'
theorem ok_start {f : Addr} {fd : FuncData} (F : Fun K "_law_start" "_law_start" s__law_start f fd) (T : Txt K mg A) : FnOk P w K mg base CX0 1 f fd pm__law_start (spStart K) := by
  refine F.ok sc__law_start (fun vs H Q E h => ?_) (fun cdv A' outer sh H vs Q E hr h => ?_)
  · obtain ⟨_, _, rfl, _⟩ := h
    rfl
  · obtain ⟨a, ns, rfl, hS, hlen, k⟩ := h
    refine ⟨_, pss_cons (ps_set (i := 1) sc__law_start.nd rfl (Or.inl rfl) (pe_int))
      (Evl.pss_cut (ps_if (pt_cmpR op_gt (pe_callB call_len_seq (by rfl) T.n_len (by decide +kernel) (pa_cons (pv 0) pa_nil)) (pe_int) (nomark _)) (pss_one (ps_set (i := 1) sc__law_start.nd rfl (Or.inl rfl) (pe_ix ix_list (pv 0) (pe_int) (fun _ _ => rfl)))) (pss_nil))
      (pss_one (ps_ret (pe_lst (pa_cons (pe_callB call_abs (by rfl) T.n_abs (by decide +kernel) (pa_cons (pe_callTy call_int1 (by rfl) T.n_int (by decide +kernel) (pa_cons (pv 1) pa_nil)) pa_nil)) (pa_cons (pe_callTy call_int1 (by rfl) T.n_int (by decide +kernel) (pa_cons (pe_cmpR op_ge (pe_callB call_abs (by rfl) T.n_abs (by decide +kernel) (pa_cons (pe_callTy call_int1 (by rfl) T.n_int (by decide +kernel) (pa_cons (pv 1) pa_nil)) pa_nil)) (pe_op op_pow (pe_int) (pe_int)) (nomark _)) pa_nil)) (pa_cons (pe_int) (pa_cons (pe_int) pa_nil)))))))), ?_⟩
    refine ⟨fun σ H' => H' = H ∧ ∃ c, σ = [some (.ref a), some (.int c)], ?_, ?_⟩
    · refine ⟨_, rfl, a, _, rfl, .inl hS, _, _, rfl, rfl, _, rfl, ?_⟩
      cases ns with
      | nil => exact iteF ⟨rfl, 0, rfl⟩
      | cons n ns =>
        rw [List.length_map, List.length_cons, decide_eq_true (show ((ns.length + 1 : Nat) : Int) > 0 by omega)]
        exact iteT ⟨_, rfl, a, _, ((0 : Nat) : Int), .int n, rfl, rfl, hS, atI_nat rfl, rfl, n, rfl⟩
    · rintro σ H' ⟨rfl, c, rfl⟩
      refine ⟨_, rfl, .inl ⟨c, rfl, _, rfl, ?_⟩⟩
      refine ⟨_, rfl, .inl ⟨c, rfl, _, rfl, _, _, rfl, rfl, ⟨by decide, by decide, by decide⟩, _, _, rfl, rfl, .inr ⟨_, rfl, by show 4 ≤ sizeLine; decide, fun p hp => ?_⟩⟩⟩
      exact k p _ hp ⟨_, _, _, _, upd_same⟩ (Ext.upd hp)
end
section
variable {P : Program} {w : World} {K : PySem.W.Frag} {mg : Str → Option Value} {base : Heap} {A : Ad}
def spDrawB (K : PySem.W.Frag) : Sp := fun vs H Q _ => ∃ (a b : Addr) (ns : List Int) (L : Int), vs = [.ref a, .ref b, .int L] ∧ SqL K H a (ns.map V.int) ∧ (a = b → ∀ H', SqL K H' a (ns.map V.int)) ∧ StB H b ∧ 1 ≤ L ∧ L ≤ 2000000 ∧ ∀ n H', 0 ≤ n → n < L → StB H' b → ExtB b H H' → Q (.int n) H'
theorem ok_draw {f : Addr} {fd : FuncData} (F : Fun K "_law_draw" "_law_draw" s__law_draw f fd) (T : Txt K mg A) : FnOk P w K mg base CX0 1 f fd pm__law_draw (spDrawB K) := by
  refine F.ok sc__law_draw (fun vs H Q E h => ?_) (fun cdv A' outer sh H vs Q E hr h => ?_)
  · obtain ⟨_, _, _, _, rfl, _⟩ := h
    rfl
  · obtain ⟨a, b, ns, L, rfl, hS, nab, ⟨x0, x1, x2, x3, hb⟩, hL, hL2, k⟩ := h
    refine ⟨_, pss_cons (ps_asg (pe_op op_add (pe_ix ix_list (pv 1) (pe_int) (fun _ _ => rfl)) (pe_int)) (pg_sub (pv 1) (pe_int) set_list))
      (pss_cons (ps_if (PW.pt (pw_and (pt_cmpR op_eq (pe_ix ix_list (pv 1) (pe_int) (fun _ _ => rfl)) (pe_int) (nomark _)) (pw_and1 (pt_cmpR op_gt (pe_ix ix_list (pv 1) (pe_int) (fun _ _ => rfl)) (pe_int) (nomark _))))) (pss_cons (ps_set (i := 3) sc__law_draw.nd rfl (Or.inl rfl) (pe_op op_modN (pe_callTy call_int1 (by rfl) T.n_int (by decide +kernel) (pa_cons (pe_ix ix_list (pv 1) (pe_int) (fun _ _ => rfl)) pa_nil)) (pv 2)))
      (pss_cons (ps_asg (pe_op op_fdivN (pe_ix ix_list (pv 1) (pe_int) (fun _ _ => rfl)) (pv 2)) (pg_sub (pv 1) (pe_int) set_list))
      (pss_one (ps_ret (pv 3))))) (pss_nil))
      (pss_cons (ps_asg (pe_int) (pg_sub (pv 1) (pe_int) set_list))
      (pss_cons (ps_set (i := 4) sc__law_draw.nd rfl (Or.inl rfl) (pe_int))
      (Evl.pss_cut (ps_if (pt_cmpR op_gt (pe_callB call_len_seq (by rfl) T.n_len (by decide +kernel) (pa_cons (pv 0) pa_nil)) (pe_int) (nomark _)) (pss_one (ps_set (i := 4) sc__law_draw.nd rfl (Or.inl rfl) (pe_ix ix_list (pv 0) (pe_op op_modN (pe_callTy call_int1 (by rfl) T.n_int (by decide +kernel) (pa_cons (pe_ix ix_list (pv 1) (pe_int) (fun _ _ => rfl)) pa_nil)) (pe_callB call_len_seq (by rfl) T.n_len (by decide +kernel) (pa_cons (pv 0) pa_nil))) (fun _ _ => rfl)))) (pss_nil))
      (pss_cons (ps_asg (pe_op op_add (pe_ix ix_list (pv 1) (pe_int) (fun _ _ => rfl)) (pe_int)) (pg_sub (pv 1) (pe_int) set_list))
      (pss_cons (ps_set (i := 5) sc__law_draw.nd rfl (Or.inl rfl) (pe_op op_mul (pe_op op_mod (pe_callTy call_int1 (by rfl) T.n_int (by decide +kernel) (pa_cons (pe_ix ix_list (pv 1) (pe_int) (fun _ _ => rfl)) pa_nil)) (pe_int)) (pe_int)))
      (pss_cons (ps_set (i := 5) sc__law_draw.nd rfl (Or.inl rfl) (pe_op op_add (pe_op op_add (pe_op op_add (pv 5) (pe_op op_mod (pe_callTy call_int1 (by rfl) T.n_int (by decide +kernel) (pa_cons (pv 4) pa_nil)) (pe_int))) (pe_op op_mul (pe_int) (pe_ix ix_list (pv 1) (pe_int) (fun _ _ => rfl)))) (pe_int)))
      (pss_cons (ps_asg (pe_op op_mod (pe_callTy call_int1 (by rfl) T.n_int (by decide +kernel) (pa_cons (pv 5) pa_nil)) (pe_int)) (pg_sub (pv 1) (pe_int) set_list))
      (pss_cons (ps_set (i := 5) sc__law_draw.nd rfl (Or.inl rfl) (pe_op op_mod (pe_callTy call_int1 (by rfl) T.n_int (by decide +kernel) (pa_cons (pe_op op_add (pe_op op_mul (pe_ix ix_list (pv 1) (pe_int) (fun _ _ => rfl)) (pe_int)) (pe_ix ix_list (pv 1) (pe_int) (fun _ _ => rfl))) pa_nil)) (pe_int)))
      (pss_one (ps_ret (pe_op op_modN (pe_callTy call_int1 (by rfl) T.n_int (by decide +kernel) (pa_cons (pe_op op_fdiv (pv 5) (pe_int)) pa_nil)) (pv 2))))))))))))), ?_⟩
    refine ⟨_, rfl, b, _, 3, .int x3, rfl, rfl, SqL.of hb, rfl, _, _, rfl, rfl, _, rfl, b, _, 3, 3, rfl, rfl, hb, rfl, ?_⟩
    have hb1 : upd H b (.lst ([V.int x0, .int x1, .int x2, .int x3].set 3 (.int (x3 + 1)))) b = some (.lst [.int x0, .int x1, .int x2, .int (x3 + 1)]) := upd_same
    have e1 : ExtB b H (upd H b (.lst ([V.int x0, .int x1, .int x2, .int x3].set 3 (.int (x3 + 1))))) := ExtB.set
    generalize upd H b (.lst ([V.int x0, .int x1, .int x2, .int x3].set 3 (.int (x3 + 1)))) = H1 at hb1 e1 ⊢
    refine ⟨_, rfl, b, _, 1, .int x1, rfl, rfl, SqL.of hb1, rfl, rfl, _, rfl, ?_⟩
    rw [dvi]
    by_cases h1 : x1 = 1
    case' pos =>
      rw [decide_eq_true h1]
      refine iteT ⟨_, rfl, b, _, 0, .int x0, rfl, rfl, SqL.of hb1, rfl, _, _, rfl, rfl, _, rfl, ?_⟩
      by_cases h0 : x0 > 0
      case' pos =>
        rw [decide_eq_true h0]
        refine iteT ⟨_, rfl, b, _, 0, .int x0, rfl, rfl, SqL.of hb1, rfl, .inl ⟨_, rfl, _, rfl, _, _, rfl, rfl, (by show L ≠ 0; omega), ?_⟩⟩
        refine ⟨_, rfl, b, _, 0, .int x0, rfl, rfl, SqL.of hb1, rfl, _, rfl, _, _, rfl, rfl, ⟨by omega, by omega⟩, _, rfl, b, _, 0, 0, rfl, rfl, hb1, rfl, _, rfl, ?_⟩
        exact k _ _ (Int.fmod_nonneg_of_pos _ (by omega)) (Int.fmod_lt_of_pos _ (by omega)) ⟨_, _, _, _, upd_same⟩ (e1.trans ExtB.set)
      case' neg =>
        rw [decide_eq_false h0]
        refine iteF ?_
    case' neg =>
      rw [decide_eq_false h1]
      refine iteF (iteF ?_)
    all_goals (
      refine ⟨_, rfl, b, _, 1, 1, rfl, rfl, hb1, rfl, ?_⟩
      have hb2 : upd H1 b (.lst ([V.int x0, .int x1, .int x2, .int (x3 + 1)].set 1 (.int 0))) b = some (.lst [.int x0, .int 0, .int x2, .int (x3 + 1)]) := upd_same
      have e2 : ExtB b H (upd H1 b (.lst ([V.int x0, .int x1, .int x2, .int (x3 + 1)].set 1 (.int 0)))) := e1.trans ExtB.set
      generalize upd H1 b (.lst ([V.int x0, .int x1, .int x2, .int (x3 + 1)].set 1 (.int 0))) = H2 at hb2 e2 ⊢
      have hS2 := sqL_b hS nab e2
      refine ⟨fun σ H' => H' = H2 ∧ ∃ c, σ = [some (.ref a), some (.ref b), some (.int L), Option.none, some (.int c), Option.none], ?_, ?_⟩
      · refine ⟨_, rfl, a, _, rfl, .inl hS2, _, _, rfl, rfl, _, rfl, ?_⟩
        by_cases hn : ns = []
        · subst hn
          exact iteF ⟨rfl, 0, rfl⟩
        · have hlp : 0 < (ns.length : Int) := by
            have := List.length_pos_iff.mpr hn
            omega
          rw [List.length_map, decide_eq_true hlp]
          obtain ⟨j, hj⟩ : ∃ j : Nat, x2.fmod (ns.length : Int) = (j : Int) := ⟨(x2.fmod (ns.length : Int)).toNat, (Int.toNat_of_nonneg (Int.fmod_nonneg_of_pos _ hlp)).symm⟩
          have hjl : j < ns.length := by
            have z := Int.fmod_lt_of_pos x2 hlp
            omega
          have hj' : x2.fmod ((ns.map V.int).length : Int) = (j : Int) := by rw [List.length_map]; exact hj
          have hjv : (ns.map V.int)[j]? = some (.int ns[j]) := by rw [List.getElem?_map, List.getElem?_eq_getElem hjl] <;> rfl
          refine iteT ⟨_, rfl, _, rfl, b, _, 2, .int x2, rfl, rfl, SqL.of hb2, rfl, .inl ⟨_, rfl, _, rfl, a, _, rfl, .inl hS2, _, _, rfl, rfl, (by show ((ns.map V.int).length : Int) ≠ 0; rw [List.length_map]; omega), a, _, _, .int ns[j], rfl, rfl, hS2, by rw [hj']; exact atI_nat hjv, rfl, _, rfl⟩⟩
      · rintro σ H2' ⟨rfl, c, rfl⟩
        refine ⟨_, rfl, b, _, 2, .int x2, rfl, rfl, SqL.of hb2, rfl, _, _, rfl, rfl, _, rfl, b, _, 2, 2, rfl, rfl, hb2, rfl, ?_⟩
        have hb3 : upd H2' b (.lst ([V.int x0, .int 0, .int x2, .int (x3 + 1)].set 2 (.int (x2 + 1)))) b = some (.lst [.int x0, .int 0, .int (x2 + 1), .int (x3 + 1)]) := upd_same
        have e3 : ExtB b H (upd H2' b (.lst ([V.int x0, .int 0, .int x2, .int (x3 + 1)].set 2 (.int (x2 + 1))))) := e2.trans ExtB.set
        generalize upd H2' b (.lst ([V.int x0, .int 0, .int x2, .int (x3 + 1)].set 2 (.int (x2 + 1)))) = H3 at hb3 e3 ⊢
        refine ⟨_, rfl, b, _, 0, .int x0, rfl, rfl, SqL.of hb3, rfl, .inl ⟨_, rfl, _, _, rfl, rfl, (by show (0 : Int) < 2147483647; decide), _, _, rfl, rfl, .inr ⟨by decide, by decide⟩, ?_⟩⟩
        refine ⟨_, rfl, _, rfl, .inl ⟨_, rfl, _, _, rfl, rfl, (by show (0 : Int) < 2147483629; decide), _, _, rfl, rfl, _, rfl, b, _, 3, .int (x3 + 1), rfl, rfl, SqL.of hb3, rfl, _, _, rfl, rfl, .inl ⟨by decide, by decide⟩, _, _, rfl, rfl, _, _, rfl, rfl, ?_⟩⟩
        refine ⟨_, rfl, .inl ⟨_, rfl, _, _, rfl, rfl, (by show (0 : Int) < 2147483647; decide), _, rfl, b, _, 0, 0, rfl, rfl, hb3, rfl, ?_⟩⟩
        generalize x0 % 2147483647 * 48271 + c % 2147483629 + 7 * (x3 + 1) + 11 = mx
        have hb4 : upd H3 b (.lst ([V.int x0, .int 0, .int (x2 + 1), .int (x3 + 1)].set 0 (.int (mx % 2147483647)))) b = some (.lst [.int (mx % 2147483647), .int 0, .int (x2 + 1), .int (x3 + 1)]) := upd_same
        have e4 : ExtB b H (upd H3 b (.lst ([V.int x0, .int 0, .int (x2 + 1), .int (x3 + 1)].set 0 (.int (mx % 2147483647))))) := e3.trans ExtB.set
        generalize upd H3 b (.lst ([V.int x0, .int 0, .int (x2 + 1), .int (x3 + 1)].set 0 (.int (mx % 2147483647)))) = H4 at hb4 e4 ⊢
        refine ⟨_, rfl, b, _, 0, .int (mx % 2147483647), rfl, rfl, SqL.of hb4, rfl, _, _, rfl, rfl, .inr ⟨by decide, by decide⟩, _, rfl, b, _, 3, .int (x3 + 1), rfl, rfl, SqL.of hb4, rfl, _, _, rfl, rfl, .inl ⟨_, rfl, _, _, rfl, rfl, (by show (0 : Int) < 2147483629; decide), ?_⟩⟩
        refine ⟨_, rfl, _, _, rfl, rfl, ⟨by decide, by decide⟩, .inl ⟨_, rfl, _, rfl, _, _, rfl, rfl, (by show L ≠ 0; omega), ?_⟩⟩
        exact k _ _ (Int.fmod_nonneg_of_pos _ (by omega)) (Int.fmod_lt_of_pos _ (by omega)) ⟨_, _, _, _, hb4⟩ e4)
end
end K08

set_option Elab.async false
set_option maxRecDepth 100000
set_option maxHeartbeats 4000000
namespace K08
open PySem PySem.Spec PyProof.Rows L2
theorem pw_split {b : Int} : ∀ {bs : List Int}, bs.Pairwise (· < ·) → bs = bs.filter (fun x => decide (x < b)) ++ bs.filter (fun x => decide (b ≤ x))
  | [], _ => rfl
  | x :: bs, h => by
    rw [List.pairwise_cons] at h
    by_cases hx : x < b
    · rw [List.filter_cons_of_pos (by rw [decide_eq_true hx]), List.filter_cons_of_neg (by rw [decide_eq_false (show ¬ b ≤ x by omega)]; exact Bool.false_ne_true), List.cons_append, ← pw_split h.2]
    · have e1 : (x :: bs).filter (fun x => decide (x < b)) = [] := List.filter_eq_nil_iff.mpr fun y hy => by
        rw [decide_eq_true_eq]
        rcases List.mem_cons.mp hy with rfl | hy
        · exact hx
        · have := h.1 y hy
          omega
      have e2 : (x :: bs).filter (fun x => decide (b ≤ x)) = x :: bs := List.filter_eq_self.mpr fun y hy => by
        rw [decide_eq_true_eq]
        rcases List.mem_cons.mp hy with rfl | hy
        · omega
        · have := h.1 y hy
          omega
      rw [e1, e2, List.nil_append]
theorem pw_ins {b : Int} {bs : List Int} (h : bs.Pairwise (· < ·)) (hb : b ∉ bs) : (bs.take (bs.filter fun x => decide (x < b)).length ++ [b] ++ bs.drop (bs.filter fun x => decide (x < b)).length).Pairwise (· < ·) := by
  have hs := pw_split (b := b) h
  have h1 : bs.take (bs.filter fun x => decide (x < b)).length = bs.filter (fun x => decide (x < b)) := by
    have := congrArg (List.take (bs.filter fun x => decide (x < b)).length) hs
    rw [List.take_left] at this
    exact this
  have h2 : bs.drop (bs.filter fun x => decide (x < b)).length = bs.filter (fun x => decide (b ≤ x)) := by
    have := congrArg (List.drop (bs.filter fun x => decide (x < b)).length) hs
    rw [List.drop_left] at this
    exact this
  rw [h1, h2, List.append_assoc]
  refine List.pairwise_append.mpr ⟨h.filter _, List.pairwise_cons.mpr ⟨fun x hx => ?_, h.filter _⟩, fun x hx y hy => ?_⟩
  · obtain ⟨m1, m2⟩ := List.mem_filter.mp hx
    have := of_decide_eq_true m2
    have : x ≠ b := fun e => hb (e ▸ m1)
    omega
  · have hx' := of_decide_eq_true (List.mem_filter.mp hx).2
    rcases List.mem_cons.mp hy with rfl | hy
    · exact hx'
    · have := of_decide_eq_true (List.mem_filter.mp hy).2
      omega
section
variable {P : Program} {w : World} {K : PySem.W.Frag} {mg : Str → Option Value} {base : Heap} {A : Ad}
def spLTold (K : PySem.W.Frag) : Sp := fun vs H Q _ => ∃ (p : Addr) (bs : List Int) (f : Int), vs = [.ref p, .int f] ∧ SqL K H p (bs.map V.int) ∧ Q (.int (told bs f)) H
theorem ok_ltold {f : Addr} {fd : FuncData} (F : Fun K "_law_told" "_law_told" s__law_told f fd) : FnOk P w K mg base CX0 1 f fd pm__law_told (spLTold K) := by
  refine F.ok sc__law_told (fun vs H Q E h => ?_) (fun cdv A' outer sh H vs Q E hr h => ?_)
  · obtain ⟨_, _, _, rfl, _⟩ := h
    rfl
  · obtain ⟨p, bs, fr, rfl, hp, q⟩ := h
    refine ⟨_, pss_cons (ps_set (i := 2) sc__law_told.nd rfl (Or.inl rfl) (pe_int))
      (pss_cons (ps_for PassesOwn.never rfl (pi_list (pv 0)) (pg_name (i := 3) sc__law_told.nd rfl (Or.inl rfl)) (pss_one (ps_if (pt_cmpR op_le (pv 3) (pv 1) (nomark _)) (pss_one (ps_set (i := 2) sc__law_told.nd rfl (Or.inl rfl) (pv 3))) (pss_nil))))
      (pss_one (ps_ret (pv 2)))), ?_⟩
    refine ⟨_, rfl, p, rfl, ⟨_, hp⟩, ?_⟩
    refine for_list (xs := bs.map V.int) (fun i σ' H' => H' = H ∧ ∃ o3, σ' = [some (.ref p), some (.int fr), some (.int ((bs.take i).foldl (fun a b => if b ≤ fr then b else a) 0)), o3]) ⟨rfl, _, rfl⟩ (fun i σ' H' _ pv => pv.1 ▸ hp) (fun i x σ' H' hi pv => ?_) (fun σ' H' pv => ?_)
    · obtain ⟨rfl, o3, rfl⟩ := pv
      rw [List.getElem?_map] at hi
      obtain ⟨b, hb, rfl⟩ := Option.map_eq_some_iff.mp hi
      refine ⟨_, rfl, _, rfl, _, _, rfl, rfl, _, rfl, ?_⟩
      rw [take_snoc hb, List.foldl_append]
      by_cases h : b ≤ fr
      · rw [decide_eq_true h]
        refine iteT ⟨_, rfl, rfl, some (.int b), ?_⟩
        show _ = [_, _, some (V.int (if b ≤ fr then b else _)), _]
        rw [if_pos h]
        rfl
      · rw [decide_eq_false h]
        refine iteF ⟨rfl, some (.int b), ?_⟩
        show _ = [_, _, some (V.int (if b ≤ fr then b else _)), _]
        rw [if_neg h]
        rfl
    · obtain ⟨rfl, o3, rfl⟩ := pv
      rw [List.length_map, List.take_length]
      exact ⟨_, rfl, q⟩
def spLReach (K : PySem.W.Frag) : Sp := fun vs H Q _ => ∃ (t p : Addr) (z : Int) (bs : List Int) (h k : Int), vs = [.ref t, .int h, .int k] ∧ SqT K H t [.int z, .ref p] ∧ SqL K H p (bs.map V.int) ∧ Q (.int (min k (told bs (z - h)))) H
def spGood (K : PySem.W.Frag) : Sp := fun vs H Q _ => ∃ (v : V) (d : PyData), vs = [v] ∧ Dp K H v d ∧ Q (.bl (betD d 1 60)) H
def spLDue (K : PySem.W.Frag) : Sp := fun vs H Q _ => ∃ (v : V) (o : Option PyData), vs = [v] ∧ Th K H v o ∧ (∀ ds, o ≠ some (.tuple ds)) ∧ (inN o = false → ∀ t H', Ext H H' → H' t = some (.tup [.str "steps", .non]) → Q (.ref t) H') ∧
  ∀ ds, o = some (.list ds) → inN o = true → (∀ i : Nat, i < ds.length → (∀ j, j < i → okAt ds j = true) → okAt ds i = false → ∀ t H', Ext H H' → H' t = some (.tup [.str "steps", .int (i : Int)]) → Q (.ref t) H') ∧
    ∀ bs : List Int, ds = bs.map .int → OkB bs → ∀ t q H', Ext H H' → H' t = some (.tup [.str "bounds", .ref q]) → H' q = some (.tup (bs.map V.int)) → Q (.ref t) H'
end
end K08

namespace K08
end K08

set_option Elab.async false
set_option maxRecDepth 100000
set_option maxHeartbeats 4000000
namespace K08
open PySem PySem.Spec PyProof.Rows L2
/-- how far one piece reaches from h -/
def rch (z : Int) (bs : List Int) (k h : Int) : Int := min k (told bs (z - h))
def rchs (z : Int) (bs : List Int) (k : Int) : List Int := (List.range (z + 1).toNat).map fun h => rch z bs k ((h : Nat) : Int)
theorem bet_in {a b n : Int} (h1 : a ≤ n) (h2 : n ≤ b) : betD (.int n) a b = true := by
  rw [bet_int, decide_eq_true h1, decide_eq_true h2]
  rfl
section
variable {P : Program} {w : World} {K : PySem.W.Frag} {mg : Str → Option Value} {base : Heap} {A : Ad}
def spCkRoom (K : PySem.W.Frag) (A : Ad) : Sp := fun vs H Q _ => ∃ (r : Addr) (z : Int) (bs : List Int), vs = [.ref r] ∧ RmAt K A H r z bs ∧ Q .non H
theorem ok_ckRoom {f : Addr} {fd : FuncData} (F : Fun K "check_room" "check_room" s_check_room f fd) (T : Txt K mg A) (X_BadPart : XCls P w K mg base "BadPart" "part" A.BadPart) : FnOk P w K mg base (L2.CX P w) 3 f fd pm_check_room (spCkRoom K A) := by
  refine F.okX sc_check_room (fun vs H Q E h => ?_) (fun cdv A' outer sh H vs Q E hr h => ?_)
  · obtain ⟨_, _, _, rfl, _⟩ := h
    rfl
  · obtain ⟨r, z, bs, rfl, ⟨dx, s, hR, _⟩, q⟩ := h
    refine ⟨_, pss_one (ps_if (pt_not (pt_val (pe_callB call_isi (by rfl) T.n_isinstance (by decide +kernel) (pa_cons (pv 0) (pa_cons (pe_gcls T.Room.gC) pa_nil))))) (pss_one (ps_raise rfl (takes_of rfl rfl rfl rfl) (pmk_X X_BadPart (hr.mono (by decide)) (pe_str) rfl))) (pss_nil)), ?_⟩
    exact ⟨_, rfl, _, .ref A.Room, .ref A.Room, .ref A.Room, true, rfl, .own _, T.Room.tyOf hR, T.Room.me, _, rfl, iteF q⟩
def spCkRoomE (K : PySem.W.Frag) (A : Ad) : Sp := fun vs H Q E => (vs = [.non] ∧ ErrP A E H "room") ∨ spCkRoom K A vs H Q E
theorem ok_ckRoomE {f : Addr} {fd : FuncData} (F : Fun K "check_room" "check_room" s_check_room f fd) (T : Txt K mg A) (X_BadPart : XCls P w K mg base "BadPart" "part" A.BadPart) : FnOk P w K mg base (L2.CX P w) 3 f fd pm_check_room (spCkRoomE K A) := by
  refine F.okX sc_check_room (fun vs H Q E h => ?_) (fun cdv A' outer sh H vs Q E hr h => ?_)
  · rcases h with ⟨rfl, _⟩ | ⟨_, _, _, rfl, _⟩ <;> rfl
  · refine ⟨_, pss_one (ps_if (pt_not (pt_val (pe_callB call_isi (by rfl) T.n_isinstance (by decide +kernel) (pa_cons (pv 0) (pa_cons (pe_gcls T.Room.gC) pa_nil))))) (pss_one (ps_raise rfl (takes_of rfl rfl rfl rfl) (pmk_X X_BadPart (hr.mono (by decide)) (pe_str) rfl))) (pss_nil)), ?_⟩
    rcases h with ⟨rfl, q⟩ | ⟨r, z, bs, rfl, ⟨dx, s, hR, _⟩, q⟩
    · exact ⟨_, rfl, _, .ref A.Room, .type (tnD .none), .ref A.Room, false, rfl, .own _, dp_ty (d := .none) .non, T.Room.kitB (sub_ty_ref kd_find) rfl, _, rfl, iteT (mkX_fin fun e he => q _ Ext.rfl' e he)⟩
    · exact ⟨_, rfl, _, .ref A.Room, .ref A.Room, .ref A.Room, true, rfl, .own _, T.Room.tyOf hR, T.Room.me, _, rfl, iteF q⟩
def spCkLen (K : PySem.W.Frag) : Sp := fun vs H Q _ => ∃ n : Int, vs = [.int n] ∧ 0 ≤ n ∧ n ≤ 99 ∧ Q .non H
theorem ok_ckLen {f : Addr} {fd : FuncData} (F : Fun K "check_length" "check_length" s_check_length f fd) (T : Txt K mg A) (O_is_between : Own P w K mg base CX0 "is_between" 2 pm_is_between (spBetween K)) (X_BadNumber : XCls P w K mg base "BadNumber" "number" A.BadNumber) : FnOk P w K mg base (L2.CX P w) 3 f fd pm_check_length (spCkLen K) := by
  refine F.okX sc_check_length (fun vs H Q E h => ?_) (fun cdv A' outer sh H vs Q E hr h => ?_)
  · obtain ⟨_, rfl, _⟩ := h
    rfl
  · obtain ⟨n, rfl, n0, n1, q⟩ := h
    refine ⟨_, pss_one (ps_if (pt_not (pt_val (pe_own O_is_between (hr.mono (by decide)) pass0 (pa_cons (pv 0) (pa_cons (pe_int) (pa_cons (pe_gint T.g_MOST_LENGTH) pa_nil)))))) (pss_one (ps_raise rfl (takes_of rfl rfl rfl rfl) (pmk_X X_BadNumber (hr.mono (by decide)) (pv 0) rfl))) (pss_nil)), ?_⟩
    refine ⟨_, rfl, _, .int n, 0, 99, rfl, .int n, _, rfl, ?_⟩
    rw [bet_in n0 n1]
    exact iteF q
def spGoods (K : PySem.W.Frag) (A : Ad) : Sp := fun vs H Q _ => ∃ (r : Addr) (z : Int) (bs : List Int) (k n : Int), vs = [.ref r, .int k, .int n] ∧ RmAt K A H r z bs ∧ 0 ≤ k ∧ k ≤ 99 ∧ 0 ≤ n ∧ n ≤ 99 ∧ Q .non H
theorem ok_goods {f : Addr} {fd : FuncData} (F : Fun K "check_goods" "check_goods" s_check_goods f fd) (T : Txt K mg A) (O_check_room : Own P w K mg base (L2.CX P w) "check_room" 3 pm_check_room (spCkRoom K A)) (O_check_cap : Own P w K mg base (L2.CX P w) "check_cap" 3 pm_check_cap (spCheckCap K A)) (O_check_length : Own P w K mg base (L2.CX P w) "check_length" 3 pm_check_length (spCkLen K)) : FnOk P w K mg base (L2.CX P w) 4 f fd pm_check_goods (spGoods K A) := by
  refine F.okX sc_check_goods (fun vs H Q E h => ?_) (fun cdv A' outer sh H vs Q E hr h => ?_)
  · obtain ⟨_, _, _, _, _, rfl, _⟩ := h
    rfl
  · obtain ⟨r, z, bs, k, n, rfl, hR, k0, k1, n0, n1, q⟩ := h
    refine ⟨_, pss_cons (ps_expr (pe_ownS O_check_room (hr.mono (by decide)) (takes_of rfl rfl rfl rfl) (pa_cons (pv 0) pa_nil)))
      (pss_cons (ps_expr (pe_ownS O_check_cap (hr.mono (by decide)) (takes_of rfl rfl rfl rfl) (pa_cons (pv 1) pa_nil)))
      (pss_one (ps_expr (pe_ownS O_check_length (hr.mono (by decide)) (takes_of rfl rfl rfl rfl) (pa_cons (pv 2) pa_nil))))), ?_⟩
    exact ⟨_, rfl, r, z, bs, rfl, hR, _, rfl, _, .int k, rfl, .int k, fun hn => (by rw [bet_in k0 k1] at hn; cases hn), fun _ => ⟨_, rfl, n, rfl, n0, n1, q⟩⟩
def spGoes (K : PySem.W.Frag) (A : Ad) : Sp := fun vs H Q _ => ∃ (r : Addr) (z : Int) (bs : List Int) (k n : Int), vs = [.ref r, .int k, .int n] ∧ RmAt K A H r z bs ∧ OkB bs ∧ 0 ≤ k ∧ k ≤ 99 ∧ 0 ≤ n ∧ n ≤ 99 ∧ Q (.bl (decide (n ≤ topN z bs k))) H
theorem ok_goes {f : Addr} {fd : FuncData} (F : Fun K "goes" "goes" s_goes f fd) (T : Txt K mg A) (O_check_goods : Own P w K mg base (L2.CX P w) "check_goods" 4 pm_check_goods (spGoods K A)) (O_Room_top : OwnM P w K mg base (L2.CX P w) A.Room "top" 4 pm_Room_top (spTop K A)) : FnOk P w K mg base (L2.CX P w) 5 f fd pm_goes (spGoes K A) := by
  refine F.okX sc_goes (fun vs H Q E h => ?_) (fun cdv A' outer sh H vs Q E hr h => ?_)
  · obtain ⟨_, _, _, _, _, rfl, _⟩ := h
    rfl
  · obtain ⟨r, z, bs, k, n, rfl, hR, g, k0, k1, n0, n1, q⟩ := h
    obtain ⟨dx, s, hr1, _⟩ := id hR
    refine ⟨_, pss_cons (ps_expr (pe_ownS O_check_goods (hr.mono (by decide)) (takes_of rfl rfl rfl rfl) (pa_cons (pv 0) (pa_cons (pv 1) (pa_cons (pv 2) pa_nil)))))
      (pss_one (ps_ret (pe_cmpR op_le (pv 2) (pe_ownM O_Room_top (pv 0) T.Room.cl (hr.mono (by decide)) passL (pa_cons (pv 1) pa_nil)) (nomark _)))), ?_⟩
    refine ⟨_, rfl, _, rfl, _, rfl, r, z, bs, k, n, rfl, hR, k0, k1, n0, n1, ?_⟩
    exact ⟨_, rfl, _, rfl, r, dx, _, rfl, hr1, rfl, _, rfl, r, z, bs, _, .int k, rfl, hR, g, .int k, fun hn => (by rw [bet_in k0 k1] at hn; cases hn), fun k' he _ => (by cases he; exact ⟨_, _, rfl, rfl, q⟩)⟩
def spReaches (K : PySem.W.Frag) (A : Ad) : Sp := fun vs H Q _ => ∃ (r : Addr) (z : Int) (bs : List Int) (k : Int), vs = [.ref r, .int k] ∧ RmAt K A H r z bs ∧ OkB bs ∧ 1 ≤ z ∧ z ≤ 60 ∧ 0 ≤ k ∧ k ≤ 99 ∧ ∀ l H', Ext H H' → H l = none → H' l = some (.lst ((rchs z bs k).map V.int)) → Q (.ref l) H'
theorem ok_reaches {f : Addr} {fd : FuncData} (F : Fun K "reaches_of" "reaches_of" s_reaches_of f fd) (T : Txt K mg A) (O_Room_reach : OwnM P w K mg base (L2.CX P w) A.Room "reach" 4 pm_Room_reach (spReach K A)) : FnOk P w K mg base (L2.CX P w) 5 f fd pm_reaches_of (spReaches K A) := by
  refine F.okX sc_reaches_of (fun vs H Q E h => ?_) (fun cdv A' outer sh H vs Q E hr h => ?_)
  · obtain ⟨_, _, _, _, rfl, _⟩ := h
    rfl
  · obtain ⟨r, z, bs, k, rfl, hR, g, z1, z60, k0, k1, q⟩ := h
    obtain ⟨dx, s, hr1, _⟩ := id hR
    refine ⟨_, pss_one (ps_ret (pe_lc (own := [("held", 2)]) (g := gName 2) (by rfl) sc_reaches_of.nd (pi_range1 rfl T.n_range (pa_cons (pe_op op_add (pe_fld (pv 0) rfl) (pe_int)) pa_nil)) (blkOk_by (own := [("held", 2)]) (N := nm_reaches_of) (sc := defScope s_reaches_of) (by decide +kernel)) (fun _ _ _ _ _ => pg_name (i := 2) sc_reaches_of.nd rfl (Or.inl rfl)) (fun s1 H1 C1 cl fp => pts_nil) (fun s1 H1 C1 cl fp => pe_ownM O_Room_reach (pv 0) T.Room.cl (hr.mono (by decide)) passL (pa_cons (pv 2) (pa_cons (pv 1) pa_nil))))), ?_⟩
    refine ⟨_, rfl, r, A.Room, dx, _, _, rfl, hr1, T.Room.cl, T.r_size, rfl, _, _, rfl, rfl, z + 1, rfl, by omega, by omega, fun D hD => ?_⟩
    refine lc_range (fun i H' => Ext H H' ∧ H' D = some (.lst (((List.range i).map fun h => rch z bs k ((h : Nat) : Int)).map V.int))) ⟨Ext.upd hD, upd_same⟩ (fun i H2 hi pv => ?_) (fun H2 pv => ?_)
    · obtain ⟨e, hl⟩ := pv
      rw [Int.zero_add]
      have h0 : 0 ≤ (i : Int) := by omega
      have h1 : (i : Int) ≤ z := by omega
      refine ⟨rfl, _, rfl, r, dx, _, rfl, e _ _ hr1, rfl, _, rfl, _, rfl, r, z, bs, _, _, .int (i : Int), .int k, rfl, hR.ext e, g, .int _, .int _, fun hn => (by rw [bet_in h0 h1] at hn; cases hn), fun _ hn => (by rw [bet_in k0 k1] at hn; cases hn), fun h' k' he he2 _ _ H3 e3 => ?_⟩
      cases he
      cases he2
      refine ⟨_, e3 _ _ hl, small_sz (by rw [List.length_map, List.length_map, List.length_range]; omega), ext_mut (e.trans e3) hD, ?_⟩
      rw [upd_same, List.range_succ, List.map_append, List.map_append]
      rfl
    · obtain ⟨e, hl⟩ := pv
      exact q D H2 e hD hl
end
end K08

set_option Elab.async false
set_option maxRecDepth 100000
set_option maxHeartbeats 4000000
namespace K08
open PySem PySem.Spec PyProof.Rows L2
/-! how far one, two, .. pieces reach, told plainly -/
theorem told_fold {f : Int} : ∀ (bs : List Int) (a : Int), bs.foldl (fun a b => if b ≤ f then b else a) a = a ∨ (bs.foldl (fun a b => if b ≤ f then b else a) a ∈ bs ∧ bs.foldl (fun a b => if b ≤ f then b else a) a ≤ f)
  | [], _ => .inl rfl
  | b :: bs, a => by
    rw [List.foldl_cons]
    rcases told_fold bs (if b ≤ f then b else a) with h | ⟨h1, h2⟩
    · rw [h]
      by_cases hb : b ≤ f
      · rw [if_pos hb]
        exact .inr ⟨List.mem_cons_self, hb⟩
      · rw [if_neg hb]
        exact .inl rfl
    · exact .inr ⟨List.mem_cons_of_mem _ h1, h2⟩
theorem told_le {bs : List Int} {f : Int} (h : 0 ≤ f) : told bs f ≤ f := by
  rcases told_fold (f := f) bs 0 with e | ⟨_, e⟩
  · show bs.foldl _ 0 ≤ f
    rw [e]
    exact h
  · exact e
theorem told_nn {bs : List Int} (g : OkB bs) (f : Int) : 0 ≤ told bs f := (fold_bd (f := f) bs 0 (Int.le_refl _) (by decide) g.2.2.1).1
theorem told_ge {bs : List Int} (g : OkB bs) {f b : Int} (hb : b ∈ bs) (hf : b ≤ f) : b ≤ told bs f := by
  rw [← told_max g f]
  have hm : b ∈ bs.filter fun b => decide (b ≤ f) := List.mem_filter.mpr ⟨hb, decide_eq_true hf⟩
  exact (mxD_mem (List.ne_nil_of_mem hm)).2 b hm
theorem told_mem {bs : List Int} {f : Int} (h : 0 < told bs f) : told bs f ∈ bs ∧ told bs f ≤ f := by
  rcases told_fold (f := f) bs 0 with e | e
  · have : told bs f = 0 := e
    omega
  · exact e
theorem told_mono {bs os : List Int} (go : OkB os) (hs : ∀ b ∈ bs, b ∈ os) {f f' : Int} (hf : f ≤ f') : told bs f ≤ told os f' := by
  by_cases h : 0 < told bs f
  · obtain ⟨h1, h2⟩ := told_mem h
    exact told_ge go (hs _ h1) (by omega)
  · have := told_nn go f'
    omega
def nxt (z : Int) (bs : List Int) (k t : Int) : Int := mxD 0 ((List.range (min t z + 1).toNat).map fun h => ((h : Nat) : Int) + rch z bs k ((h : Nat) : Int))
theorem nxt_mem {z : Int} {bs : List Int} {k t : Int} (t0 : 0 ≤ t) (z0 : 0 ≤ z) : (∃ h : Int, 0 ≤ h ∧ h ≤ t ∧ h ≤ z ∧ nxt z bs k t = h + rch z bs k h) ∧ ∀ h : Int, 0 ≤ h → h ≤ t → h ≤ z → h + rch z bs k h ≤ nxt z bs k t := by
  have hne : ((List.range (min t z + 1).toNat).map fun h => ((h : Nat) : Int) + rch z bs k ((h : Nat) : Int)) ≠ [] := by
    intro e
    rw [List.map_eq_nil_iff, List.range_eq_nil] at e
    omega
  obtain ⟨h1, h2⟩ := mxD_mem (d := 0) hne
  refine ⟨?_, fun h a b c => ?_⟩
  · obtain ⟨i, hi, he⟩ := List.mem_map.mp h1
    rw [List.mem_range] at hi
    exact ⟨(i : Int), by omega, by omega, by omega, he.symm⟩
  · refine h2 _ (List.mem_map.mpr ⟨h.toNat, List.mem_range.mpr (by omega), ?_⟩)
    rw [Int.toNat_of_nonneg a]
theorem rch_nn {z : Int} {bs : List Int} {k : Int} (g : OkB bs) (k0 : 0 ≤ k) (h : Int) : 0 ≤ rch z bs k h := by
  have := told_nn g (z - h)
  show 0 ≤ min k (told bs (z - h))
  omega
theorem rch_le {z : Int} {bs : List Int} {k h : Int} (hz : h ≤ z) : h + rch z bs k h ≤ z := by
  have := told_le (bs := bs) (show 0 ≤ z - h by omega)
  show h + min k (told bs (z - h)) ≤ z
  omega
def tp (z : Int) (bs : List Int) (k : Int) : Nat → Int
  | 0 => 0
  | i + 1 => nxt z bs k (tp z bs k i)
section
variable {z k : Int} {bs : List Int}
theorem tp_bd (g : OkB bs) (k0 : 0 ≤ k) (z0 : 0 ≤ z) : ∀ i : Nat, 0 ≤ tp z bs k i ∧ tp z bs k i ≤ z
  | 0 => ⟨Int.le_refl _, z0⟩
  | i + 1 => by
    obtain ⟨a, b⟩ := tp_bd g k0 z0 i
    obtain ⟨⟨h, h0, h1, h2, e⟩, _⟩ := nxt_mem (bs := bs) (k := k) a z0
    show 0 ≤ nxt z bs k (tp z bs k i) ∧ nxt z bs k (tp z bs k i) ≤ z
    rw [e]
    have := rch_nn (z := z) g k0 h
    exact ⟨by omega, rch_le h2⟩
theorem tp_le (g : OkB bs) (k0 : 0 ≤ k) (z0 : 0 ≤ z) (i : Nat) : tp z bs k i ≤ tp z bs k (i + 1) := by
  obtain ⟨a, b⟩ := tp_bd g k0 z0 i
  obtain ⟨_, m⟩ := nxt_mem (bs := bs) (k := k) a z0
  have := m _ a (Int.le_refl _) b
  have := rch_nn (z := z) g k0 (tp z bs k i)
  show tp z bs k i ≤ nxt z bs k (tp z bs k i)
  omega
theorem tp_mono (g : OkB bs) (k0 : 0 ≤ k) (z0 : 0 ≤ z) {i : Nat} : ∀ {j : Nat}, i ≤ j → tp z bs k i ≤ tp z bs k j
  | 0, h => by
    obtain rfl : i = 0 := by omega
    exact Int.le_refl _
  | j + 1, h => by
    by_cases e : i = j + 1
    · rw [e]
      exact Int.le_refl _
    · have := tp_mono g k0 z0 (i := i) (j := j) (by omega)
      have := tp_le (z := z) g k0 z0 j
      omega
/-- where the layers end -/
def Last (z : Int) (bs : List Int) (k : Int) (N : Nat) : Prop := (∀ j, j < N → tp z bs k j < tp z bs k (j + 1)) ∧ tp z bs k (N + 1) ≤ tp z bs k N
theorem Last.one {N M : Nat} (h : Last z bs k N) (h' : Last z bs k M) : N = M := by
  rcases Nat.lt_trichotomy N M with a | a | a
  · have := h'.1 N a
    have := h.2
    omega
  · exact a
  · have := h.1 M a
    have := h'.2
    omega
theorem Last.after (g : OkB bs) (k0 : 0 ≤ k) (z0 : 0 ≤ z) {N : Nat} (h : Last z bs k N) : ∀ i : Nat, tp z bs k (N + i) = tp z bs k N
  | 0 => rfl
  | i + 1 => by
    show nxt z bs k (tp z bs k (N + i)) = _
    rw [Last.after g k0 z0 h i]
    have h1 := h.2
    have h2 := tp_le (z := z) g k0 z0 N
    have : tp z bs k (N + 1) = tp z bs k N := by omega
    exact this
theorem strict_ge {n : Nat} : (∀ j, j < n → tp z bs k j < tp z bs k (j + 1)) → (n : Int) ≤ tp z bs k n := by
  induction n with
  | zero => exact fun _ => Int.le_refl _
  | succ n ih =>
    intro h
    have h1 := ih fun j hj => h j (by omega)
    have h2 := h n (Nat.lt_succ_self _)
    omega
theorem Last.ex (g : OkB bs) (k0 : 0 ≤ k) (z0 : 0 ≤ z) : ∃ N, Last z bs k N := by
  refine Classical.byContradiction fun hno => ?_
  have hall : ∀ n : Nat, ∀ j, j < n → tp z bs k j < tp z bs k (j + 1) := fun n => by
    induction n with
    | zero => exact fun j hj => absurd hj (Nat.not_lt_zero _)
    | succ n ih =>
      intro j hj
      by_cases e : j < n
      · exact ih j e
      · obtain rfl : j = n := by omega
        exact Classical.byContradiction fun hc => hno ⟨j, ih, by omega⟩
  have h1 := strict_ge (hall (z.toNat + 1))
  have h2 := (tp_bd g k0 z0 (z.toNat + 1)).2
  omega
/-- the layers' last is what `top` says -/
theorem last_top (g : OkB bs) (k0 : 0 ≤ k) (z1 : 1 ≤ z) {N : Nat} (h : Last z bs k N) : tp z bs k N = topN z bs k := by
  have z0 : 0 ≤ z := by omega
  obtain ⟨b0, rest, rfl⟩ : ∃ b0 rest, bs = b0 :: rest := by
    cases bs with
    | nil => exact absurd g.1 (by decide)
    | cons b0 rest => exact ⟨_, _, rfl⟩
  have hb0 := g.2.2.1 b0 List.mem_cons_self
  have hleast : ∀ b ∈ b0 :: rest, b0 ≤ b := fun b hb => by
    rcases List.mem_cons.mp hb with rfl | hb
    · exact Int.le_refl _
    · exact Int.le_of_lt ((List.pairwise_cons.mp g.2.2.2).1 b hb)
  unfold topN
  rw [show (b0 :: rest).headD 0 = b0 from rfl]
  have zero : ∀ f : Int, f < b0 → told (b0 :: rest) f = 0 := fun f hf => by
    have := told_nn g f
    by_cases hp : 0 < told (b0 :: rest) f
    · obtain ⟨m1, m2⟩ := told_mem hp
      have := hleast _ m1
      omega
    · omega
  by_cases hk : k = 0 ∨ b0 > z
  · rw [if_pos hk]
    have hr : ∀ h : Int, 0 ≤ h → rch z (b0 :: rest) k h = 0 := fun h h0 => by
      show min k (told (b0 :: rest) (z - h)) = 0
      rcases hk with hk | hk
      · have := told_nn g (z - h)
        omega
      · rw [zero (z - h) (by omega)]
        omega
    have : ∀ i : Nat, tp z (b0 :: rest) k i = 0 := fun i => by
      induction i with
      | zero => rfl
      | succ i ih =>
        show nxt z (b0 :: rest) k (tp z (b0 :: rest) k i) = 0
        rw [ih]
        obtain ⟨⟨h, h0, h1, h2, e⟩, _⟩ := nxt_mem (z := z) (bs := b0 :: rest) (k := k) (Int.le_refl 0) z0
        rw [e, hr h h0]
        omega
    exact this N
  · rw [if_neg hk]
    have hk1 : 1 ≤ k := by omega
    have hz : b0 ≤ z := by omega
    have tl : told (b0 :: rest) b0 = b0 := by
      have h1 := told_ge g List.mem_cons_self (Int.le_refl b0)
      have h2 := told_le (bs := b0 :: rest) (f := b0) (by omega)
      omega
    have hi : ∀ i : Nat, tp z (b0 :: rest) k i ≤ z - b0 + min k b0 := fun i => by
      induction i with
      | zero =>
        show (0 : Int) ≤ _
        omega
      | succ i ih =>
        obtain ⟨a, b⟩ := tp_bd g k0 z0 i
        obtain ⟨⟨h, h0, h1, h2, e⟩, _⟩ := nxt_mem (z := z) (bs := b0 :: rest) (k := k) a z0
        show nxt z (b0 :: rest) k (tp z (b0 :: rest) k i) ≤ _
        rw [e]
        show h + min k (told (b0 :: rest) (z - h)) ≤ _
        by_cases hh : h ≤ z - b0
        · have := told_le (bs := b0 :: rest) (f := z - h) (by omega)
          omega
        · rw [zero (z - h) (by omega)]
          omega
    have h1 := hi N
    obtain ⟨a, b⟩ := tp_bd g k0 z0 N
    obtain ⟨_, m⟩ := nxt_mem (z := z) (bs := b0 :: rest) (k := k) a z0
    have h2 : nxt z (b0 :: rest) k (tp z (b0 :: rest) k N) ≤ tp z (b0 :: rest) k N := h.2
    have h3 : z - b0 < tp z (b0 :: rest) k N := by
      refine Classical.byContradiction fun hc => ?_
      have h4 := m _ a (Int.le_refl _) b
      have h5 := told_ge (f := z - tp z (b0 :: rest) k N) g List.mem_cons_self (by omega)
      have h6 : rch z (b0 :: rest) k (tp z (b0 :: rest) k N) = min k (told (b0 :: rest) (z - tp z (b0 :: rest) k N)) := rfl
      omega
    have h4 := m (z - b0) (by omega) (by omega) (by omega)
    have h5 : rch z (b0 :: rest) k (z - b0) = min k b0 := by
      show min k (told (b0 :: rest) (z - (z - b0))) = _
      rw [show z - (z - b0) = b0 by omega, tl]
    omega
end
end K08

set_option Elab.async false
set_option maxRecDepth 100000
set_option maxHeartbeats 4000000
namespace K08
open PySem PySem.Spec PyProof.Rows L2
theorem rchs_len {z : Int} {bs : List Int} {k : Int} (z0 : 0 ≤ z) : (((rchs z bs k).map V.int).length : Int) - 1 = z := by
  rw [List.length_map]
  unfold rchs
  rw [List.length_map, List.length_range]
  omega
theorem rchs_at {z : Int} {bs : List Int} {k : Int} {i : Nat} (h : (i : Int) ≤ z) : ((rchs z bs k).map V.int)[i]? = some (V.int (rch z bs k (i : Int))) := by
  unfold rchs
  rw [List.getElem?_map, List.getElem?_map, List.getElem?_range (by omega)]
  rfl
theorem nxt_is {z : Int} {bs : List Int} {k t m : Int} (t0 : 0 ≤ t) (z0 : 0 ≤ z) (hm : m ∈ ((List.range (min t z + 1).toNat).map fun h => ((h : Nat) : Int) + rch z bs k ((h : Nat) : Int))) (hy : ∀ y, y ∈ ((List.range (min t z + 1).toNat).map fun h => ((h : Nat) : Int) + rch z bs k ((h : Nat) : Int)) → y ≤ m) : m = nxt z bs k t := by
  obtain ⟨h1, h2⟩ := mxD_mem (d := 0) (List.ne_nil_of_mem hm)
  have a := h2 m hm
  have b := hy _ h1
  show m = mxD 0 _
  omega
section
variable {P : Program} {w : World} {K : PySem.W.Frag} {mg : Str → Option Value} {base : Heap} {A : Ad}
def spTopB (K : PySem.W.Frag) : Sp := fun vs H Q _ => ∃ (p : Addr) (z : Int) (bs : List Int) (k t : Int), vs = [.ref p, .int t] ∧ H p = some (.lst ((rchs z bs k).map V.int)) ∧ 0 ≤ z ∧ z ≤ 100 ∧ 0 ≤ t ∧ ∀ H', Ext H H' → Q (.int (nxt z bs k t)) H'
def tops (z : Int) (bs : List Int) (k : Int) (i : Nat) : List V := (List.range (i + 1)).map fun j => V.int (tp z bs k j)
theorem tops_last {z : Int} {bs : List Int} {k : Int} {i : Nat} : atI (tops z bs k i) (-1) = some (V.int (tp z bs k i)) := by
  have hl : (tops z bs k i).length = i + 1 := by
    unfold tops
    rw [List.length_map, List.length_range]
  have hn : ixN (tops z bs k i).length (-1) = some i := by
    unfold ixN
    rw [hl, if_neg (by decide), if_pos (by omega)]
    congr 1
    omega
  unfold atI
  rw [hn]
  show (tops z bs k i)[i]? = _
  unfold tops
  rw [List.getElem?_map, List.getElem?_range (Nat.lt_succ_self _)]
  rfl
theorem tops_snoc {z : Int} {bs : List Int} {k : Int} {i : Nat} : tops z bs k i ++ [V.int (tp z bs k (i + 1))] = tops z bs k (i + 1) := by
  show _ = (List.range (i + 1 + 1)).map _
  rw [List.range_succ, List.map_append]
  rfl
def spLayers (K : PySem.W.Frag) (A : Ad) : Sp := fun vs H Q _ => ∃ (r : Addr) (z : Int) (bs : List Int) (k : Int), vs = [.ref r, .int k] ∧ RmAt K A H r z bs ∧ OkB bs ∧ 1 ≤ z ∧ z ≤ 60 ∧ 0 ≤ k ∧ k ≤ 99 ∧ ∀ l N H', Ext H H' → H l = none → H' l = some (.lst (tops z bs k N)) → Last z bs k N → Q (.ref l) H'
end
end K08

set_option Elab.async false
set_option maxRecDepth 100000
set_option maxHeartbeats 4000000
namespace K08
open PySem PySem.Spec PyProof.Rows L2
def oV : Option Nat → V | none => .non | some p => .int (p : Int)
/-- the fewest pieces that make n, or none -/
def FewIs (z : Int) (bs : List Int) (k n : Int) (o : Option Nat) : Prop := (n = 0 ∧ o = some 1) ∨ (1 ≤ n ∧ ((∃ p, o = some p ∧ n ≤ tp z bs k p ∧ ∀ q, q < p → tp z bs k q < n) ∨ (o = none ∧ ∀ q, tp z bs k q < n)))
theorem FewIs.one {z : Int} {bs : List Int} {k n : Int} {o o' : Option Nat} (h : FewIs z bs k n o) (h' : FewIs z bs k n o') : o = o' := by
  rcases h with ⟨h1, rfl⟩ | ⟨h1, h⟩
  · rcases h' with ⟨_, rfl⟩ | ⟨h2, _⟩
    · rfl
    · omega
  · rcases h' with ⟨h2, _⟩ | ⟨_, h'⟩
    · omega
    · rcases h with ⟨p, rfl, a, b⟩ | ⟨rfl, a⟩ <;> rcases h' with ⟨p', rfl, a', b'⟩ | ⟨rfl, a'⟩
      · rcases Nat.lt_trichotomy p p' with c | rfl | c
        · have := b' p c
          omega
        · rfl
        · have := b p' c
          omega
      · have := a' p
        omega
      · have := a p'
        omega
      · rfl
theorem tp_all_last {z : Int} {bs : List Int} {k : Int} (g : OkB bs) (k0 : 0 ≤ k) (z0 : 0 ≤ z) {N : Nat} (h : Last z bs k N) (q : Nat) : tp z bs k q ≤ tp z bs k N := by
  by_cases hq : q ≤ N
  · exact tp_mono g k0 z0 hq
  · have := Last.after g k0 z0 h (q - N)
    rw [show N + (q - N) = q by omega] at this
    omega
theorem few_top {z : Int} {bs : List Int} {k n : Int} {o : Option Nat} (g : OkB bs) (k0 : 0 ≤ k) (z1 : 1 ≤ z) (n0 : 0 ≤ n) (h : FewIs z bs k n o) : o.isSome = decide (n ≤ topN z bs k) := by
  obtain ⟨N, hN⟩ := Last.ex (z := z) g k0 (by omega)
  have ht := last_top g k0 z1 hN
  have hb := (tp_bd (z := z) g k0 (by omega) N).1
  rcases h with ⟨h1, rfl⟩ | ⟨h1, ⟨p, rfl, a, _⟩ | ⟨rfl, a⟩⟩
  · rw [decide_eq_true (by omega)]
    rfl
  · have := tp_all_last g k0 (by omega) hN p
    rw [decide_eq_true (by omega)]
    rfl
  · have := a N
    rw [decide_eq_false (by omega)]
    rfl
section
variable {P : Program} {w : World} {K : PySem.W.Frag} {mg : Str → Option Value} {base : Heap} {A : Ad}
theorem tops_at {z : Int} {bs : List Int} {k : Int} {N i : Nat} {x : V} (h : (tops z bs k N)[i]? = some x) : x = .int (tp z bs k i) ∧ i ≤ N := by
  unfold tops at h
  rw [List.getElem?_map] at h
  obtain ⟨j, hj, rfl⟩ := Option.map_eq_some_iff.mp h
  have hl := (List.getElem?_eq_some_iff.mp hj).1
  rw [List.length_range] at hl
  rw [List.getElem?_range hl] at hj
  cases hj
  exact ⟨rfl, by omega⟩
def spFewBy (K : PySem.W.Frag) : Sp := fun vs H Q _ => ∃ (l : Addr) (z : Int) (bs : List Int) (k n : Int) (N : Nat), vs = [.ref l, .int n] ∧ H l = some (.lst (tops z bs k N)) ∧ Last z bs k N ∧ OkB bs ∧ 0 ≤ z ∧ 0 ≤ k ∧ 0 ≤ n ∧ ∀ o H', Ext H H' → FewIs z bs k n o → Q (oV o) H'
def spFewest (K : PySem.W.Frag) (A : Ad) : Sp := fun vs H Q _ => ∃ (r : Addr) (z : Int) (bs : List Int) (k n : Int), vs = [.ref r, .int k, .int n] ∧ RmAt K A H r z bs ∧ OkB bs ∧ 1 ≤ z ∧ z ≤ 60 ∧ 0 ≤ k ∧ k ≤ 99 ∧ 0 ≤ n ∧ n ≤ 99 ∧ ∀ o H', Ext H H' → FewIs z bs k n o → Q (oV o) H'
def LeastIs (z : Int) (bs : List Int) (n : Int) (o : Option Nat) : Prop := (∃ c : Nat, o = some c ∧ c ≤ 99 ∧ n ≤ topN z bs (c : Int) ∧ ∀ c' : Nat, c' < c → ¬ n ≤ topN z bs (c' : Int)) ∨ (o = none ∧ ∀ c' : Nat, c' ≤ 99 → ¬ n ≤ topN z bs (c' : Int))
def spLeastC (K : PySem.W.Frag) (A : Ad) : Sp := fun vs H Q _ => ∃ (r : Addr) (z : Int) (bs : List Int) (n : Int), vs = [.ref r, .int n] ∧ RmAt K A H r z bs ∧ OkB bs ∧ 0 ≤ n ∧ n ≤ 99 ∧ ∀ o, LeastIs z bs n o → Q (oV o) H
end
end K08

namespace K08
end K08

set_option maxHeartbeats 4000000
namespace K08
/-! rows of pieces from h to n, told plainly: r h: the greatest piece at h -/
def IsRow (r : Nat → Nat) (n : Nat) : Nat → List Nat → Prop
  | h, [] => h = n
  | h, p :: ps => 1 ≤ p ∧ p ≤ r h ∧ IsRow r n (h + p) ps
theorem IsRow.sum {r : Nat → Nat} {n : Nat} : ∀ {ps : List Nat} {h : Nat}, IsRow r n h ps → h + ps.sum = n
  | [], h, e => by have e : h = n := e; simpa using e
  | p :: ps, h, e => by
    have := IsRow.sum e.2.2
    rw [List.sum_cons]; omega
theorem IsRow.len {r : Nat → Nat} {n : Nat} : ∀ {ps : List Nat} {h : Nat}, IsRow r n h ps → h + ps.length ≤ n
  | [], h, e => by have : h = n := e; simp; omega
  | p :: ps, h, e => by
    have := IsRow.len e.2.2
    have := e.1
    rw [List.length_cons]; omega
def minO (l : List (Option Nat)) : Option Nat := (l.filterMap id).min?
/-- the needs from n - d on -/
def needL (r : Nat → Nat) (n : Nat) : Nat → List (Option Nat)
  | 0 => [some 0]
  | d + 1 => (minO ((needL r n d).take (r (n - (d + 1))))).map (· + 1) :: needL r n d
def need (r : Nat → Nat) (n h : Nat) : Option Nat := (needL r n (n - h)).headD none
theorem needL_len (r : Nat → Nat) (n : Nat) : ∀ d, (needL r n d).length = d + 1
  | 0 => rfl
  | d + 1 => by show (needL r n d).length + 1 = _; rw [needL_len r n d]
theorem needL_at (r : Nat → Nat) (n : Nat) : ∀ d i, i ≤ d → (needL r n d)[i]? = some ((needL r n (d - i)).headD none)
  | 0, i, h => by obtain rfl : i = 0 := by omega
                  rfl
  | d + 1, 0, _ => rfl
  | d + 1, i + 1, h => by
    show (needL r n d)[i]? = _
    rw [needL_at r n d i (by omega), show d + 1 - (i + 1) = d - i by omega]
theorem need_n (r : Nat → Nat) (n : Nat) : need r n n = some 0 := by unfold need; rw [Nat.sub_self]; rfl
/-- the things behind h -/
theorem behind_at {r : Nat → Nat} {n h i : Nat} {x : Option Nat} (hh : h < n) : ((needL r n (n - h - 1)).take (r h))[i]? = some x ↔ i < r h ∧ h + 1 + i ≤ n ∧ x = need r n (h + 1 + i) := by
  rw [List.getElem?_take]
  constructor
  · intro e
    split at e
    · have hl := (List.getElem?_eq_some_iff.mp e).1
      rw [needL_len] at hl
      rw [needL_at r n _ i (by omega)] at e
      refine ⟨by assumption, by omega, ?_⟩
      unfold need
      rw [show n - (h + 1 + i) = n - h - 1 - i by omega]
      cases e; rfl
    · cases e
  · rintro ⟨a, b, rfl⟩
    rw [if_pos a, needL_at r n _ i (by omega)]
    unfold need
    rw [show n - (h + 1 + i) = n - h - 1 - i by omega]
theorem need_lt {r : Nat → Nat} {n h : Nat} (hh : h < n) : need r n h = (minO ((needL r n (n - h - 1)).take (r h))).map (· + 1) := by
  unfold need
  obtain ⟨d, hd⟩ : ∃ d, n - h = d + 1 := ⟨n - h - 1, by omega⟩
  rw [hd]
  show (minO ((needL r n d).take (r (n - (d + 1))))).map (· + 1) = _
  rw [show n - (d + 1) = h by omega, Nat.add_sub_cancel]
theorem minO_some {l : List (Option Nat)} {m : Nat} : minO l = some m ↔ some m ∈ l ∧ ∀ x, some x ∈ l → m ≤ x := by
  unfold minO
  have hm : ∀ y, y ∈ l.filterMap id ↔ some y ∈ l := fun y => by
    rw [List.mem_filterMap]
    constructor
    · rintro ⟨a, ha, hb⟩
      have hb : a = some y := hb
      rw [← hb]; exact ha
    · exact fun h => ⟨_, h, rfl⟩
  rw [List.min?_eq_some_iff, hm]
  exact ⟨fun ⟨a, b⟩ => ⟨a, fun x hx => b x ((hm x).mpr hx)⟩, fun ⟨a, b⟩ => ⟨a, fun x hx => b x ((hm x).mp hx)⟩⟩
theorem minO_none {l : List (Option Nat)} : minO l = none ↔ ∀ x, some x ∉ l := by
  unfold minO
  rw [List.min?_eq_none_iff, List.filterMap_eq_nil_iff]
  exact ⟨fun h x hx => (by have := h _ hx; cases this), fun h a ha => by cases a with
    | none => rfl
    | some y => exact absurd ha (h y)⟩
/-- how needs hang together -/
theorem need_step {r : Nat → Nat} {n h : Nat} (hh : h < n) {m : Nat} : need r n h = some m ↔ 1 ≤ m ∧ (∃ p, 1 ≤ p ∧ p ≤ r h ∧ h + p ≤ n ∧ need r n (h + p) = some (m - 1)) ∧ ∀ p x, 1 ≤ p → p ≤ r h → h + p ≤ n → need r n (h + p) = some x → m ≤ x + 1 := by
  rw [need_lt hh, Option.map_eq_some_iff]
  have mem : ∀ y, some y ∈ (needL r n (n - h - 1)).take (r h) ↔ ∃ p, 1 ≤ p ∧ p ≤ r h ∧ h + p ≤ n ∧ need r n (h + p) = some y := fun y => by
    rw [List.mem_iff_getElem?]
    constructor
    · rintro ⟨i, hi⟩
      obtain ⟨a, b, c⟩ := (behind_at hh).mp hi
      exact ⟨i + 1, by omega, by omega, by omega, by rw [show h + (i + 1) = h + 1 + i by omega]; exact c.symm⟩
    · rintro ⟨p, a, b, c, d⟩
      exact ⟨p - 1, (behind_at hh).mpr ⟨by omega, by omega, by rw [show h + 1 + (p - 1) = h + p by omega]; exact d.symm⟩⟩
  constructor
  · rintro ⟨y, hy, rfl⟩
    obtain ⟨a, b⟩ := minO_some.mp hy
    exact ⟨by omega, (mem y).mp a, fun p x p1 p2 p3 p4 => by have := b x ((mem x).mpr ⟨p, p1, p2, p3, p4⟩); omega⟩
  · rintro ⟨m1, hp, hall⟩
    refine ⟨m - 1, minO_some.mpr ⟨(mem _).mpr hp, fun x hx => ?_⟩, by omega⟩
    obtain ⟨p, p1, p2, p3, p4⟩ := (mem x).mp hx
    have := hall p x p1 p2 p3 p4
    omega
theorem need_none {r : Nat → Nat} {n h : Nat} (hh : h < n) : need r n h = none ↔ ∀ p, 1 ≤ p → p ≤ r h → h + p ≤ n → need r n (h + p) = none := by
  rw [need_lt hh, Option.map_eq_none_iff, minO_none]
  constructor
  · intro hx p p1 p2 p3
    cases e : need r n (h + p) with
    | none => rfl
    | some y => exact absurd (List.mem_iff_getElem?.mpr ⟨p - 1, (behind_at hh).mpr ⟨by omega, by omega, by rw [show h + 1 + (p - 1) = h + p by omega]; exact e.symm⟩⟩) (hx y)
  · intro hx y hy
    obtain ⟨i, hi⟩ := List.mem_iff_getElem?.mp hy
    obtain ⟨a, b, c⟩ := (behind_at hh).mp hi
    have := hx (i + 1) (by omega) (by omega) (by omega)
    rw [show h + (i + 1) = h + 1 + i by omega, ← c] at this
    cases this
/-- what the needs say -/
theorem need_row {r : Nat → Nat} {n : Nat} : ∀ (d h : Nat), h + d = n → (∀ m, need r n h = some m → (∃ ps, IsRow r n h ps ∧ ps.length = m) ∧ ∀ ps, IsRow r n h ps → m ≤ ps.length) ∧ (need r n h = none → ∀ ps, ¬ IsRow r n h ps) := by
  intro d
  induction d using Nat.strongRecOn with
  | ind d ih =>
    intro h hd
    by_cases hz : d = 0
    · obtain rfl : h = n := by omega
      rw [need_n]
      exact ⟨fun m e => by cases e; exact ⟨⟨[], rfl, rfl⟩, fun _ _ => Nat.zero_le _⟩, fun e => nomatch e⟩
    · have hh : h < n := by omega
      have sub : ∀ p, 1 ≤ p → h + p ≤ n → _ := fun p p1 p2 => ih (d - p) (by omega) (h + p) (by omega)
      constructor
      · intro m e
        obtain ⟨m1, ⟨p, p1, p2, p3, p4⟩, hall⟩ := (need_step hh).mp e
        refine ⟨?_, fun ps hps => ?_⟩
        · obtain ⟨⟨ps, q1, q2⟩, _⟩ := (sub p p1 p3).1 _ p4
          exact ⟨p :: ps, ⟨p1, p2, q1⟩, by rw [List.length_cons]; omega⟩
        · cases ps with
          | nil => have : h = n := hps; omega
          | cons q qs =>
            obtain ⟨q1, q2, q3⟩ := hps
            have q4 := q3.len
            cases e2 : need r n (h + q) with
            | none => exact absurd q3 ((sub q q1 (by omega)).2 e2 qs)
            | some x =>
              have a := ((sub q q1 (by omega)).1 x e2).2 qs q3
              have b := hall q x q1 q2 (by omega) e2
              rw [List.length_cons]; omega
      · intro e ps hps
        cases ps with
        | nil => have : h = n := hps; omega
        | cons q qs =>
          obtain ⟨q1, q2, q3⟩ := hps
          have q4 := q3.len
          exact (sub q q1 (by omega)).2 ((need_none hh).mp e q q1 q2 (by omega)) qs q3
theorem need_some {r : Nat → Nat} {n h m : Nat} (hh : h ≤ n) (e : need r n h = some m) : (∃ ps, IsRow r n h ps ∧ ps.length = m) ∧ ∀ ps, IsRow r n h ps → m ≤ ps.length := (need_row (n - h) h (by omega)).1 m e
theorem need_no {r : Nat → Nat} {n h : Nat} (hh : h ≤ n) (e : need r n h = none) : ∀ ps, ¬ IsRow r n h ps := (need_row (n - h) h (by omega)).2 e
/-- the next pieces, ascending -/
def nextP (r : Nat → Nat) (n h : Nat) : List Nat := ((List.range (min (r h) (n - h))).map (· + 1)).filter fun p => decide ((need r n (h + p)).map (· + 1) = need r n h ∧ (need r n (h + p)).isSome)
theorem mem_nextP {r : Nat → Nat} {n h p : Nat} : p ∈ nextP r n h ↔ 1 ≤ p ∧ p ≤ r h ∧ h + p ≤ n ∧ ∃ m, need r n h = some (m + 1) ∧ need r n (h + p) = some m := by
  unfold nextP
  rw [List.mem_filter, List.mem_map, decide_eq_true_eq]
  constructor
  · rintro ⟨⟨i, hi, rfl⟩, a, b⟩
    rw [List.mem_range] at hi
    obtain ⟨m, hm⟩ := Option.isSome_iff_exists.mp b
    rw [hm] at a
    exact ⟨by omega, by omega, by omega, m, a.symm, hm⟩
  · rintro ⟨a, b, c, m, d, e⟩
    exact ⟨⟨p - 1, List.mem_range.mpr (by omega), by omega⟩, by rw [d, e]; rfl, by rw [e]; rfl⟩
theorem nextP_up {r : Nat → Nat} {n h : Nat} : (nextP r n h).Pairwise (· < ·) := by
  refine List.Pairwise.filter _ (List.pairwise_map.mpr (List.pairwise_lt_range.imp fun {a b} h => by omega))
def cutsF (r : Nat → Nat) (n : Nat) : Nat → Nat → List (List Nat)
  | 0, _ => [[]]
  | m + 1, h => ((nextP r n h).reverse).flatMap fun p => (cutsF r n m (h + p)).map (p :: ·)
/-- just the rows of fewest pieces -/
theorem mem_cutsF {r : Nat → Nat} {n : Nat} : ∀ (m h : Nat), h ≤ n → need r n h = some m → ∀ ps, ps ∈ cutsF r n m h ↔ IsRow r n h ps ∧ ps.length = m
  | 0, h, hh, e, ps => by
    show ps ∈ [[]] ↔ _
    rw [List.mem_singleton]
    constructor
    · rintro rfl
      refine ⟨?_, rfl⟩
      refine Classical.byContradiction fun hc => ?_
      have hlt : h < n := Nat.lt_of_le_of_ne hh hc
      have := ((need_step hlt).mp e).1
      omega
    · rintro ⟨_, hl⟩
      exact List.length_eq_zero_iff.mp hl
  | m + 1, h, hh, e, ps => by
    show ps ∈ ((nextP r n h).reverse).flatMap _ ↔ _
    rw [List.mem_flatMap]
    constructor
    · rintro ⟨p, hp, hps⟩
      rw [List.mem_reverse] at hp
      obtain ⟨a, b, c, m', d, e'⟩ := mem_nextP.mp hp
      obtain ⟨qs, hq, rfl⟩ := List.mem_map.mp hps
      rw [e] at d; cases d
      obtain ⟨q1, q2⟩ := (mem_cutsF m (h + p) c e' qs).mp hq
      exact ⟨⟨a, b, q1⟩, by rw [List.length_cons, q2]⟩
    · rintro ⟨hr, hl⟩
      cases ps with
      | nil => cases hl
      | cons p qs =>
        obtain ⟨a, b, c⟩ := hr
        have hlen := c.len
        rw [List.length_cons] at hl
        have hn : need r n (h + p) = some m := by
          cases e2 : need r n (h + p) with
          | none => exact absurd c (need_no (by omega) e2 qs)
          | some x =>
            have h1 := (need_some (by omega) e2).2 qs c
            obtain ⟨⟨rs, r1, r2⟩, _⟩ := need_some (show h + p ≤ n by omega) e2
            have h2 := (need_some hh e).2 (p :: rs) ⟨a, b, r1⟩
            rw [List.length_cons] at h2
            congr 1; omega
        exact ⟨p, List.mem_reverse.mpr (mem_nextP.mpr ⟨a, b, by omega, m, e, hn⟩), List.mem_map.mpr ⟨qs, (mem_cutsF m (h + p) (by omega) hn qs).mpr ⟨c, by omega⟩, rfl⟩⟩
theorem cutsF_ne {r : Nat → Nat} {n h m : Nat} (hh : h ≤ n) (e : need r n h = some m) : cutsF r n m h ≠ [] := by
  obtain ⟨⟨ps, a, b⟩, _⟩ := need_some hh e
  exact List.ne_nil_of_mem ((mem_cutsF m h hh e ps).mpr ⟨a, b⟩)
/-- the work that waits at h -/
def wt (r : Nat → Nat) (n : Nat) : Nat → Nat → Nat
  | 0, _ => 1
  | m + 1, h => 1 + ((nextP r n h).map fun p => wt r n m (h + p)).sum
theorem sum_filter {α : Type} (f : α → Nat) (q : α → Bool) : ∀ l : List α, ((l.filter q).map f).sum ≤ (l.map f).sum
  | [] => Nat.le_refl _
  | x :: l => by
    have := sum_filter f q l
    rw [List.filter_cons, List.map_cons, List.sum_cons]
    split
    · rw [List.map_cons, List.sum_cons]; omega
    · omega
theorem pow_sum (N : Nat) : ∀ k, k ≤ N → (((List.range k).map (· + 1)).map fun p => 2 ^ (N - p)).sum + 2 ^ (N - k) = 2 ^ N
  | 0, _ => by simp
  | k + 1, h => by
    have := pow_sum N k (by omega)
    rw [List.range_succ, List.map_append, List.map_append, List.sum_append]
    have e : 2 ^ (N - k) = 2 ^ (N - (k + 1)) + 2 ^ (N - (k + 1)) := by
      rw [show N - k = (N - (k + 1)) + 1 by omega, Nat.pow_succ]; omega
    simp only [List.map_cons, List.map_nil, List.sum_cons, List.sum_nil]
    omega
theorem flat_len {α β : Type} (f : α → List β) (B : α → Nat) : ∀ l : List α, (∀ x ∈ l, (f x).length ≤ B x) → (l.flatMap f).length ≤ (l.map B).sum
  | [], _ => by simp
  | x :: l, h => by
    rw [List.flatMap_cons, List.length_append, List.map_cons, List.sum_cons]
    have := flat_len f B l fun y hy => h y (List.mem_cons_of_mem _ hy)
    have := h x List.mem_cons_self
    omega
theorem cutsF_len {r : Nat → Nat} {n : Nat} : ∀ (m h : Nat), h ≤ n → (cutsF r n m h).length ≤ 2 ^ (n - h)
  | 0, h, _ => Nat.one_le_two_pow
  | m + 1, h, hh => by
    refine Nat.le_trans (flat_len _ (fun p => 2 ^ (n - h - p)) _ fun p hp => ?_) ?_
    · rw [List.length_map]
      obtain ⟨_, _, c, _⟩ := mem_nextP.mp (List.mem_reverse.mp hp)
      rw [show n - h - p = n - (h + p) by omega]
      exact cutsF_len m (h + p) c
    · rw [List.map_reverse, List.sum_reverse]
      unfold nextP
      refine Nat.le_trans (sum_filter _ _ _) ?_
      exact Nat.le_trans (Nat.le_add_right _ _) (Nat.le_of_eq (pow_sum (n - h) (min (r h) (n - h)) (by omega)))
/-- seen from further on -/
theorem needL_shift {r : Nat → Nat} {n a : Nat} (ha : a ≤ n) : ∀ d, d ≤ n - a → needL (fun h => r (a + h)) (n - a) d = needL r n d
  | 0, _ => rfl
  | d + 1, hd => by
    show _ :: _ = _ :: _
    rw [needL_shift ha d (by omega)]
    dsimp only
    rw [show a + (n - a - (d + 1)) = n - (d + 1) by omega]
theorem need_shift {r : Nat → Nat} {n a h : Nat} (hh : a + h ≤ n) : need (fun h => r (a + h)) (n - a) h = need r n (a + h) := by
  unfold need
  rw [needL_shift (by omega) _ (by omega), show n - a - h = n - (a + h) by omega]
theorem nextP_shift {r : Nat → Nat} {n a h : Nat} (hh : a + h ≤ n) : nextP (fun h => r (a + h)) (n - a) h = nextP r n (a + h) := by
  unfold nextP
  rw [show n - a - h = n - (a + h) by omega]
  refine List.filter_congr fun p hp => ?_
  obtain ⟨i, hi, rfl⟩ := List.mem_map.mp hp
  rw [List.mem_range] at hi
  rw [need_shift hh, need_shift (by omega), show a + (h + (i + 1)) = a + h + (i + 1) by omega]
theorem cutsF_shift {r : Nat → Nat} {n a : Nat} : ∀ (m h : Nat), a + h ≤ n → cutsF (fun h => r (a + h)) (n - a) m h = cutsF r n m (a + h)
  | 0, _, _ => rfl
  | m + 1, h, hh => by
    show List.flatMap _ _ = List.flatMap _ _
    rw [nextP_shift hh]
    rw [List.flatMap_def, List.flatMap_def]
    congr 1
    refine List.map_congr_left fun p hp => ?_
    obtain ⟨_, _, c, _⟩ := mem_nextP.mp (List.mem_reverse.mp hp)
    rw [cutsF_shift m (h + p) (by omega), show a + (h + p) = a + h + p by omega]
theorem isRow_shift {r : Nat → Nat} {n a : Nat} : ∀ {ps : List Nat} {h : Nat}, a + h ≤ n → (IsRow (fun h => r (a + h)) (n - a) h ps ↔ IsRow r n (a + h) ps)
  | [], h, hh => by show h = n - a ↔ a + h = n; omega
  | p :: ps, h, hh => by
    show (1 ≤ p ∧ p ≤ r (a + h) ∧ IsRow _ _ (h + p) ps) ↔ (1 ≤ p ∧ p ≤ r (a + h) ∧ IsRow _ _ (a + h + p) ps)
    by_cases hp : a + (h + p) ≤ n
    · rw [isRow_shift hp, show a + (h + p) = a + h + p by omega]
    · constructor
      · rintro ⟨_, _, c⟩; have := c.len; omega
      · rintro ⟨_, _, c⟩; have := c.len; omega
end K08

set_option Elab.async false
set_option maxRecDepth 100000
set_option maxHeartbeats 4000000
namespace K08
open PySem PySem.Spec PyProof.Rows L2
def rN (z : Int) (bs : List Int) (k : Int) (h : Nat) : Nat := (rch z bs k ((h : Nat) : Int)).toNat
theorem rN_cast {z : Int} {bs : List Int} {k : Int} (g : OkB bs) (k0 : 0 ≤ k) (h : Nat) : rch z bs k ((h : Nat) : Int) = ((rN z bs k h : Nat) : Int) := by
  have := rch_nn (z := z) g k0 ((h : Nat) : Int)
  unfold rN
  omega
theorem cut_at {xs : List V} {a b : Nat} (h : a ≤ b) : cutV xs (some (a : Int)) (some (b : Int)) = (xs.drop a).take (b - a) := by
  unfold cutV
  rw [HT.sIx_nat, HT.sIx_nat]
  by_cases ha : a ≤ xs.length
  · rw [Nat.min_eq_left ha]
    by_cases hb : b ≤ xs.length
    · rw [Nat.min_eq_left hb]
    · rw [Nat.min_eq_right (by omega), List.take_of_length_le (by rw [List.length_drop]; exact Nat.le_refl _), List.take_of_length_le (by rw [List.length_drop]; omega)]
  · rw [Nat.min_eq_right (a := a) (by omega), List.drop_eq_nil_of_le (by omega), List.drop_eq_nil_of_le (by omega), List.take_nil, List.take_nil]
def oVs (l : List (Option Nat)) : List V := l.map oV
/-- the needs, as far as they are known -/
def needsV (r : Nat → Nat) (n i : Nat) : List V := List.replicate (n - i) V.non ++ oVs (needL r n i)
theorem needsV_len {r : Nat → Nat} {n i : Nat} (h : i ≤ n) : (needsV r n i).length = n + 1 := by
  unfold needsV oVs
  rw [List.length_append, List.length_replicate, List.length_map, needL_len]; omega
theorem needsV_drop {r : Nat → Nat} {n i : Nat} : (needsV r n i).drop (n - i) = oVs (needL r n i) := by
  unfold needsV
  rw [List.drop_append_of_le_length (by rw [List.length_replicate]; exact Nat.le_refl _), List.drop_eq_nil_of_le (by rw [List.length_replicate]; exact Nat.le_refl _), List.nil_append]
theorem needsV_full {r : Nat → Nat} {n : Nat} : needsV r n n = oVs (needL r n n) := by
  unfold needsV
  rw [Nat.sub_self]; rfl
theorem rep_snoc {n i : Nat} (hi : i < n) : List.replicate (n - i) V.non = List.replicate (n - (i + 1)) V.non ++ [V.non] := by
  rw [show n - i = (n - (i + 1)) + 1 by omega, List.replicate_succ']
theorem needsV_none {r : Nat → Nat} {n i : Nat} (hi : i < n) (h : minO ((needL r n i).take (r (n - (i + 1)))) = none) : needsV r n (i + 1) = needsV r n i := by
  unfold needsV
  rw [rep_snoc hi, List.append_assoc]
  show _ ++ oVs ((minO ((needL r n i).take (r (n - (i + 1))))).map (· + 1) :: needL r n i) = _
  rw [h]; rfl
theorem needsV_some {r : Nat → Nat} {n i m : Nat} (hi : i < n) (h : minO ((needL r n i).take (r (n - (i + 1)))) = some m) : (needsV r n i).set (n - (i + 1)) (.int (1 + (m : Int))) = needsV r n (i + 1) := by
  unfold needsV
  rw [rep_snoc hi, List.append_assoc]
  rw [List.set_append_right _ _ (by rw [List.length_replicate]; exact Nat.le_refl _), List.length_replicate, Nat.sub_self]
  show _ ++ (V.int (1 + (m : Int)) :: oVs (needL r n i)) = _ ++ oVs ((minO ((needL r n i).take (r (n - (i + 1))))).map (· + 1) :: needL r n i)
  rw [h]
  show _ = _ ++ (V.int ((m + 1 : Nat) : Int) :: oVs (needL r n i))
  rw [show (1 + (m : Int)) = ((m + 1 : Nat) : Int) by omega]
def intsOf (l : List (Option Nat)) : List Int := (l.filterMap id).map fun m => ((m : Nat) : Int)
theorem minO_ints {l : List (Option Nat)} {m : Int} (hm : m ∈ intsOf l) (hy : ∀ y, y ∈ intsOf l → m ≤ y) : ∃ i : Nat, m = (i : Int) ∧ minO l = some i := by
  obtain ⟨i, hi, rfl⟩ := List.mem_map.mp hm
  have mem : ∀ y, y ∈ l.filterMap id ↔ some y ∈ l := fun y => by
    rw [List.mem_filterMap]
    constructor
    · rintro ⟨a, ha, hb⟩
      have hb : a = some y := hb
      rw [← hb]; exact ha
    · exact fun h => ⟨_, h, rfl⟩
  exact ⟨i, rfl, minO_some.mpr ⟨(mem i).mp hi, fun x hx => by
    have := hy _ (List.mem_map.mpr ⟨x, (mem x).mpr hx, rfl⟩)
    omega⟩⟩
theorem minO_nil {l : List (Option Nat)} (h : intsOf l = []) : minO l = none := by
  refine minO_none.mpr fun x hx => ?_
  have : ((x : Nat) : Int) ∈ intsOf l := List.mem_map.mpr ⟨x, List.mem_filterMap.mpr ⟨_, hx, rfl⟩, rfl⟩
  rw [h] at this; cases this
theorem flat1 {n : Nat} {x : V} : (List.replicate n [x]).flatten = List.replicate n x := by
  induction n with
  | zero => rfl
  | succ n ih => rw [List.replicate_succ, List.flatten_cons, ih, List.replicate_succ]; rfl
theorem rchs_take {z : Int} {bs : List Int} {k : Int} {h : Nat} (hz : (h : Int) ≤ z) : atI ((rchs z bs k).map V.int) (h : Int) = some (.int (rch z bs k (h : Int))) := atI_nat (rchs_at hz)
section
variable {P : Program} {w : World} {K : PySem.W.Frag} {mg : Str → Option Value} {base : Heap} {A : Ad}
def spNeeds (K : PySem.W.Frag) : Sp := fun vs H Q _ => ∃ (p : Addr) (z : Int) (bs : List Int) (k : Int) (n : Nat), vs = [.ref p, .int (n : Int)] ∧ H p = some (.lst ((rchs z bs k).map V.int)) ∧ OkB bs ∧ 0 ≤ k ∧ k ≤ 99 ∧ (n : Int) ≤ z ∧ z ≤ 60 ∧ ∀ l H', Ext H H' → H l = none → H' l = some (.lst (oVs (needL (rN z bs k) n n))) → Q (.ref l) H'
theorem ok_needs {f : Addr} {fd : FuncData} (F : Fun K "needs_of" "needs_of" s_needs_of f fd) (T : Txt K mg A) : FnOk P w K mg base CX0 2 f fd pm_needs_of (spNeeds K) := by
  refine F.ok sc_needs_of (fun vs H Q E h => ?_) (fun cdv A' outer sh H vs Q E hr h => ?_)
  · obtain ⟨_, _, _, _, _, rfl, _⟩ := h
    rfl
  · obtain ⟨p, z, bs, k, n, rfl, hp, g, k0, k99, nz, z60, q⟩ := h
    have z0 : 0 ≤ z := by omega
    refine ⟨_, pss_cons (ps_set (i := 2) sc_needs_of.nd rfl (Or.inl rfl) (pe_op op_cat (pe_op op_rep (pe_lst (pa_cons (pe_non) pa_nil)) (pv 1)) (pe_lst (pa_cons (pe_int) pa_nil))))
      (pss_cons (ps_for PassesOwn.never rfl (pi_revR rfl T.n_reversed (prg_1 (by rfl) T.n_range (pv 1))) (pg_name (i := 3) sc_needs_of.nd rfl (Or.inl rfl)) (pss_cons (ps_setLc (i := 4) (own := [("need", 5)]) (g := gName 5) (by rfl) sc_needs_of.nd rfl rfl (sw_true rfl rfl rfl (by decide +kernel)) (pi_list (pe_slice sl_list (pv 2) (po_some (pe_op op_add (pv 3) (pe_int))) (po_some (pe_op op_add (pe_op op_add (pv 3) (pe_int)) (pe_ix ix_list (pv 0) (pv 3) (fun _ _ => rfl)))))) (blkOk_by (own := [("need", 5)]) (N := nm_needs_of) (sc := defScope s_needs_of) (by decide +kernel)) (fun _ _ _ _ _ => pg_name (i := 5) sc_needs_of.nd rfl (Or.inl rfl)) (fun s1 H1 C1 cl fp => pts_one (pt_cmpR op_notN (pv 5) (pe_non) (nomark _))) (fun s1 H1 C1 cl fp => pv 5))
      (pss_one (ps_if (pt_truth (pv 4) (by intro _; rfl)) (pss_one (ps_asg (pe_op op_add (pe_int) (pe_callB (cr_min rfl) (by rfl) T.n_min (by decide +kernel) (pa_cons (pe_lc (own := [("need", 5)]) (g := gName 5) (by rfl) sc_needs_of.nd (pi_list (pv 4)) (blkOk_by (own := [("need", 5)]) (N := nm_needs_of) (sc := defScope s_needs_of) (by decide +kernel)) (fun _ _ _ _ _ => pg_name (i := 5) sc_needs_of.nd rfl (Or.inl rfl)) (fun s1 H1 C1 cl fp => pts_nil) (fun s1 H1 C1 cl fp => pe_callTy call_int1 (by rfl) T.n_int (by decide +kernel) (pa_cons (pv 5) pa_nil))) pa_nil))) (pg_sub (pv 2) (pv 3) set_list))) (pss_nil)))))
      (pss_one (ps_ret (pv 2)))), ?_⟩
    refine ⟨by show 1 ≤ sizeLine; decide, fun l1 h1 => ⟨_, rfl, l1, (n : Int), [V.non], rfl, rfl, upd_same, by omega, by omega, by rw [Int.toNat_natCast]; exact Nat.le_of_lt (small_sz (by show 1 * n ≤ 2000; omega)), fun l2 h2 => ⟨by show 1 ≤ sizeLine; decide, fun l3 h3 => ?_⟩⟩⟩
    rw [Int.toNat_natCast, flat1] at h3 ⊢
    have x1 := Ext.upd (o := .lst [V.non]) h1
    have x2 := Ext.upd (o := .lst (List.replicate n V.non)) h2
    have x3 := Ext.upd (o := .lst [V.int 0]) h3
    refine ⟨l2, l3, _, _, rfl, rfl, x3 _ _ upd_same, upd_same, by rw [List.length_replicate]; exact small_sz (show n ≤ 2000 by omega), fun l4 h4 => ?_⟩
    have x4 := Ext.upd (o := .lst (List.replicate n V.non ++ [V.int 0])) h4
    have x14 := ((x1.trans x2).trans x3).trans x4
    have hl4 : upd (upd (upd (upd H l1 (.lst [V.non])) l2 (.lst (List.replicate n V.non))) l3 (.lst [V.int 0])) l4 (.lst (List.replicate n V.non ++ [V.int 0])) l4 = some (.lst (needsV (rN z bs k) n 0)) := by rw [upd_same]; rfl
    have n4 : H l4 = none := ext_none ((x1.trans x2).trans x3) h4
    generalize upd (upd (upd (upd H l1 (.lst [V.non])) l2 (.lst (List.replicate n V.non))) l3 (.lst [V.int 0])) l4 (.lst (List.replicate n V.non ++ [V.int 0])) = H4 at x14 hl4 ⊢
    refine ⟨_, rfl, (n : Int), rfl, by omega, by omega, by omega, by omega, ?_⟩
    rw [show ((n : Int) - 0).toNat = n by omega]
    refine for_it walk_rangeC (fun i σ' H' => ∃ o3 o4 o5, σ' = [some (.ref p), some (.int (n : Int)), some (.ref l4), o3, o4, o5] ∧ Ext H H' ∧ H' l4 = some (.lst (needsV (rN z bs k) n i))) ⟨_, _, _, rfl, x14, hl4⟩ (fun _ _ _ _ _ => True.intro) (fun i x σ' H0 H' hi pv hy => ?_) (fun σ' H' pv => ?_)
    · obtain ⟨o3, o4, o5, rfl, e, hl⟩ := pv
      obtain ⟨rfl, rfl⟩ := hy
      have hr0 := rch_nn (z := z) (bs := bs) g k0
      obtain ⟨h, hh⟩ : ∃ h : Nat, h = n - (i + 1) := ⟨_, rfl⟩
      dsimp only
      rw [show (0 : Int) + ((n : Nat) : Int) - 1 + ((i : Nat) : Int) * (-1) = (h : Int) by omega]
      have hz : (h : Int) ≤ z := by omega
      have hrc := rN_cast (z := z) (bs := bs) g k0 h
      refine ⟨_, rfl, _, rfl, _, _, rfl, rfl, _, rfl, _, rfl, _, _, rfl, rfl, _, rfl, _, rfl, p, _, (h : Int), _, rfl, rfl, SqL.of (e _ _ hp), rchs_take hz, _, _, rfl, rfl, _, rfl, l4, _, rfl, SqL.of hl, fun l5 h5 => ?_⟩
      have hcut : cutV (needsV (rN z bs k) n i) (some ((h : Int) + 1)) (some ((h : Int) + 1 + rch z bs k ((h : Nat) : Int))) = oVs ((needL (rN z bs k) n i).take (rN z bs k h)) := by
        rw [hrc, show (h : Int) + 1 = ((h + 1 : Nat) : Int) by omega, show ((h + 1 : Nat) : Int) + ((rN z bs k h : Nat) : Int) = ((h + 1 + rN z bs k h : Nat) : Int) by omega, cut_at (by omega), show h + 1 = n - i by omega, needsV_drop, show n - i + rN z bs k h - (n - i) = rN z bs k h by omega]
        unfold oVs
        rw [List.map_take]
      rw [hcut]
      have x5 := Ext.upd (o := .lst (oVs ((needL (rN z bs k) n i).take (rN z bs k h)))) h5
      generalize hL : (needL (rN z bs k) n i).take (rN z bs k h) = L at x5 ⊢
      have hLl : L.length ≤ 61 := by rw [← hL, List.length_take, needL_len]; omega
      refine ⟨l5, rfl, ⟨_, SqL.of upd_same⟩, fun C hC => ?_⟩
      have e5 := e.trans x5
      refine lc_it (walk_list (xs := oVs L)) (fun j H2 => Ext (upd H' l5 (.lst (oVs L))) H2 ∧ H2 C = some (.lst ((intsOf (L.take j)).map V.int))) ⟨Ext.upd hC, upd_same⟩ (fun j H2 _ pv => SqL.of (pv.1 _ _ upd_same)) (fun j x H2 H3 hj pv hy => ?_) (fun H2 pv => ?_)
      · obtain ⟨e6, hC2⟩ := pv
        obtain ⟨rfl, hx⟩ := hy
        unfold oVs at hx
        rw [List.getElem?_map] at hx
        obtain ⟨o, ho, rfl⟩ := Option.map_eq_some_iff.mp hx
        have hst : intsOf (L.take (j + 1)) = intsOf (L.take j) ++ (match o with | none => [] | some m => [(m : Int)]) := by
          unfold intsOf
          rw [take_snoc ho, List.filterMap_append, List.map_append]
          cases o <;> rfl
        have hle : ((intsOf (L.take j)).map V.int).length ≤ 61 := by
          unfold intsOf
          rw [List.length_map, List.length_map]
          exact Nat.le_trans (List.length_filterMap_le _ _) (by rw [List.length_take]; omega)
        refine ⟨rfl, _, rfl, rfl, _, rfl, ?_⟩
        cases o with
        | none => exact iteF ⟨e6, by rw [hst, List.append_nil]; exact hC2⟩
        | some m =>
          refine iteT ⟨_, rfl, _, hC2, small_sz (Nat.le_trans hle (by decide)), ext_mut e6 hC, ?_⟩
          rw [upd_same, hst, List.map_append]
          rfl
      · obtain ⟨e6, hC2⟩ := pv
        rw [show L.take (oVs L).length = L from List.take_of_length_le (by unfold oVs; rw [List.length_map]; exact Nat.le_refl _)] at hC2
        have hl2 := e6 _ _ (x5 _ _ hl)
        have e7 := e5.trans e6
        refine ⟨_, rfl, _, .inl ⟨_, SqL.of hC2, rfl⟩, ?_⟩
        cases hN : intsOf L with
        | nil =>
          rw [hN] at hC2
          refine iteF ⟨_, _, _, rfl, e7, ?_⟩
          have hm := minO_nil hN
          rw [← hL, show h = n - (i + 1) from hh] at hm
          rw [needsV_none (by omega) hm]
          exact hl2
        | cons m0 ms =>
          refine iteT ?_
          have hlen : (intsOf L).length ≤ 61 := by
            unfold intsOf
            rw [List.length_map]
            exact Nat.le_trans (List.length_filterMap_le _ _) hLl
          refine ⟨_, rfl, C, rfl, ⟨_, SqL.of hC2⟩, fun C2 hC3 => ?_⟩
          refine lc_it (walk_list (xs := (intsOf L).map V.int)) (fun j H3 => Ext H2 H3 ∧ H3 C2 = some (.lst (((intsOf L).take j).map V.int))) ⟨Ext.upd hC3, upd_same⟩ (fun j H3 _ pv => SqL.of (pv.1 _ _ hC2)) (fun j x H3 H4 hj pv hy => ?_) (fun H3 pv => ?_)
          · obtain ⟨e8, hC4⟩ := pv
            obtain ⟨rfl, hx⟩ := hy
            rw [List.getElem?_map] at hx
            obtain ⟨m, hm, rfl⟩ := Option.map_eq_some_iff.mp hx
            refine ⟨rfl, _, rfl, .inl ⟨_, rfl, _, hC4, small_sz (by rw [List.length_map, List.length_take]; omega), ext_mut e8 hC3, ?_⟩⟩
            rw [upd_same, take_snoc hm, List.map_append]
            rfl
          · obtain ⟨e8, hC4⟩ := pv
            rw [List.length_map, List.take_length] at hC4
            refine ⟨C2, _, rfl, SqL.of hC4, by rw [hN]; exact Nat.zero_lt_succ _, fun m hm hy => ?_⟩
            obtain ⟨a, rfl, ha⟩ := minO_ints hm hy
            rw [← hL, show h = n - (i + 1) from hh] at ha
            refine ⟨_, _, rfl, rfl, _, rfl, _, rfl, l4, _, (h : Int), h, rfl, rfl, e8 _ _ hl2, Evl.ixN_nat (by rw [needsV_len (by omega)]; omega), _, _, _, rfl, ?_, ?_⟩
            · exact ext_mut (e7.trans e8) n4
            · rw [upd_same, show h = n - (i + 1) from hh, needsV_some (by omega) ha]
    · obtain ⟨o3, o4, o5, rfl, e, hl⟩ := pv
      exact ⟨_, rfl, q l4 H' e n4 (by rw [← needsV_full]; exact hl)⟩
end
end K08

set_option Elab.async false
set_option maxRecDepth 100000
set_option maxHeartbeats 4000000
namespace K08
open PySem PySem.Spec PyProof.Rows L2
theorem needL_need {r : Nat → Nat} {n h : Nat} (hh : h ≤ n) : (needL r n n)[h]? = some (need r n h) := needL_at r n n h hh
def keepP (r : Nat → Nat) (n h : Nat) (p : Nat) : Bool := decide ((need r n (h + p)).map (· + 1) = need r n h ∧ (need r n (h + p)).isSome)
theorem nextP_len {r : Nat → Nat} {n h : Nat} : (nextP r n h).length ≤ n := by
  unfold nextP
  refine Nat.le_trans (List.length_filter_le _ _) ?_
  rw [List.length_map, List.length_range]; omega
def oD : Option Nat → PyData | none => .none | some m => .int (m : Int)
theorem oD_dp {K : PySem.W.Frag} {H : Hp} (o : Option Nat) : Dp K H (oV o) (oD o) := by
  cases o with
  | none => exact .non
  | some m => exact .int _
theorem eqv_i (a b : Int) : PyData.eqv (.int a) (.int b) = (a == b) := by
  unfold PyData.eqv
  rfl
section
variable {P : Program} {w : World} {K : PySem.W.Frag} {mg : Str → Option Value} {base : Heap} {A : Ad}
def spNext (K : PySem.W.Frag) : Sp := fun vs H Q _ => ∃ (p q : Addr) (z : Int) (bs : List Int) (k : Int) (n h m : Nat), vs = [.ref p, .ref q, .int (h : Int)] ∧ H p = some (.lst ((rchs z bs k).map V.int)) ∧ H q = some (.lst (oVs (needL (rN z bs k) n n))) ∧ OkB bs ∧ 0 ≤ k ∧ k ≤ 99 ∧ (n : Int) ≤ z ∧ z ≤ 60 ∧ h < n ∧ need (rN z bs k) n h = some (m + 1) ∧
  ∀ l H', Ext H H' → H l = none → H' l = some (.lst ((nextP (rN z bs k) n h).map fun x => V.int ((x : Nat) : Int))) → Q (.ref l) H'
theorem ok_next {f : Addr} {fd : FuncData} (F : Fun K "next_pieces" "next_pieces" s_next_pieces f fd) (T : Txt K mg A) : FnOk P w K mg base CX0 2 f fd pm_next_pieces (spNext K) := by
  refine F.ok sc_next_pieces (fun vs H Q E h => ?_) (fun cdv A' outer sh H vs Q E hr h => ?_)
  · obtain ⟨_, _, _, _, _, _, _, _, rfl, _⟩ := h
    rfl
  · obtain ⟨p, q, z, bs, k, n, h, m, rfl, hp, hq, g, k0, k99, nz, z60, hn, hneed, qQ⟩ := h
    have hrc := rN_cast (z := z) (bs := bs) g k0 h
    refine ⟨_, pss_cons (ps_set (i := 3) sc_next_pieces.nd rfl (Or.inl rfl) (pe_slice sl_list (pv 1) (po_some (pe_op op_add (pv 2) (pe_int))) (po_some (pe_op op_add (pe_op op_add (pv 2) (pe_int)) (pe_ix ix_list (pv 0) (pv 2) (fun _ _ => rfl))))))
      (pss_one (ps_ret (pe_lc (own := [("piece", 4), ("need", 5)]) (g := gTup K 2 (gCons (gName 4) (gCons (gName 5) (gNil)))) (by rfl) sc_next_pieces.nd (pi_enF (k := 1) rfl (by decide) (by decide) rfl T.n_enumerate (pa_cons (pv 3) pa_nil)) (blkOk_by (own := [("piece", 4), ("need", 5)]) (N := nm_next_pieces) (sc := defScope s_next_pieces) (by decide +kernel)) (fun _ _ _ _ _ => pg_tup rfl (pgs_cons (pg_name (i := 4) sc_next_pieces.nd rfl (Or.inl rfl)) (pgs_cons (pg_name (i := 5) sc_next_pieces.nd rfl (Or.inl rfl)) (pgs_nil)))) (fun s1 H1 C1 cl fp => pts_one (pt_cmpR (op_eqDK (K := K) rfl hr.units) (pv 5) (pe_op op_sub (pe_ix (ix_listK (K := K) rfl) (pv 1) (pv 2) (fun _ _ => rfl)) (pe_int)) (nomark _))) (fun s1 H1 C1 cl fp => pv 4)))), ?_⟩
    refine ⟨_, rfl, _, rfl, _, _, rfl, rfl, _, rfl, _, rfl, _, _, rfl, rfl, _, rfl, _, rfl, p, _, (h : Int), _, rfl, rfl, SqL.of hp, rchs_take (by omega), _, _, rfl, rfl, _, rfl, q, _, rfl, SqL.of hq, fun l5 h5 => ?_⟩
    have hcut : cutV (oVs (needL (rN z bs k) n n)) (some ((h : Int) + 1)) (some ((h : Int) + 1 + rch z bs k ((h : Nat) : Int))) = oVs (((needL (rN z bs k) n n).drop (h + 1)).take (rN z bs k h)) := by
      rw [hrc, show (h : Int) + 1 = ((h + 1 : Nat) : Int) by omega, show ((h + 1 : Nat) : Int) + ((rN z bs k h : Nat) : Int) = ((h + 1 + rN z bs k h : Nat) : Int) by omega, cut_at (by omega), show h + 1 + rN z bs k h - (h + 1) = rN z bs k h by omega]
      unfold oVs
      rw [List.map_take, List.map_drop]
    rw [hcut]
    have x5 := Ext.upd (o := .lst (oVs (((needL (rN z bs k) n n).drop (h + 1)).take (rN z bs k h)))) h5
    have hLat : ∀ i x, (((needL (rN z bs k) n n).drop (h + 1)).take (rN z bs k h))[i]? = some x → x = need (rN z bs k) n (h + (i + 1)) := fun i x hx => by
      rw [List.getElem?_take] at hx
      split at hx
      · rw [List.getElem?_drop] at hx
        have hl := (List.getElem?_eq_some_iff.mp hx).1
        rw [needL_len] at hl
        rw [needL_need (by omega)] at hx
        cases hx
        rw [show h + 1 + i = h + (i + 1) by omega]
      · cases hx
    have hLen : (((needL (rN z bs k) n n).drop (h + 1)).take (rN z bs k h)).length = min (rN z bs k h) (n - h) := by
      rw [List.length_take, List.length_drop, needL_len]; omega
    generalize (((needL (rN z bs k) n n).drop (h + 1)).take (rN z bs k h)) = L at x5 hLat hLen ⊢
    have hl5 : upd H l5 (.lst (oVs L)) l5 = some (.lst (oVs L)) := upd_same
    generalize upd H l5 (.lst (oVs L)) = H5 at x5 hl5 ⊢
    refine ⟨_, rfl, l5, _, rfl, SqL.of hl5, fun C hC => ?_⟩
    refine lc_it (walk_enF (xs := oVs L)) (fun j H2 => Ext H5 H2 ∧ H2 C = some (.lst ((((List.range j).map (· + 1)).filter (keepP (rN z bs k) n h)).map fun x => V.int ((x : Nat) : Int)))) ⟨Ext.upd hC, upd_same⟩ (fun j H2 _ pv => SqL.of (pv.1 _ _ hl5)) (fun j x H2 H3 hj pv hy => ?_) (fun H2 pv => ?_)
    · obtain ⟨e6, hC2⟩ := pv
      obtain ⟨T2, x1, y1, rfl, hT2, rfl, hx1, hy1⟩ := hy
      cases hx1
      replace hy1 : (L.map oV)[j]? = some y1 := hy1
      rw [List.getElem?_map] at hy1
      obtain ⟨o, ho, rfl⟩ := Option.map_eq_some_iff.mp hy1
      have hjl := (List.getElem?_eq_some_iff.mp ho).1
      have hon := hLat j o ho
      have e7 := e6.upd' (o := .tup [V.int (1 + ((j : Nat) : Int)), oV o]) hT2
      have hC3 := Ext.upd (o := .tup [V.int (1 + ((j : Nat) : Int)), oV o]) hT2 _ _ hC2
      have hst : (((List.range (j + 1)).map (· + 1)).filter (keepP (rN z bs k) n h)) = (((List.range j).map (· + 1)).filter (keepP (rN z bs k) n h)) ++ (if keepP (rN z bs k) n h (j + 1) = true then [j + 1] else []) := by
        rw [List.range_succ, List.map_append, List.filter_append]
        congr 1
        show List.filter _ [j + 1] = _
        rw [List.filter_cons, List.filter_nil]
      have hle : ((((List.range j).map (· + 1)).filter (keepP (rN z bs k) n h)).map fun x => V.int ((x : Nat) : Int)).length ≤ 2000 := by
        rw [List.length_map]
        refine Nat.le_trans (List.length_filter_le _ _) ?_
        rw [List.length_map, List.length_range]; omega
      refine ⟨T2, _, rfl, SqT.of upd_same, rfl, _, _, rfl, _, _, rfl, rfl, rfl, _, rfl, _, rfl, _, rfl, q, _, (h : Int), _, rfl, rfl, SqL.of ((x5.trans e7) _ _ hq), atI_nat (j := h) (by unfold oVs; rw [List.getElem?_map, needL_need (by omega), hneed]; rfl), _, _, rfl, rfl, oD o, .int (((m + 1 : Nat) : Int) - 1), oD_dp o, .int _, by cases o <;> rfl, rfl, _, rfl, ?_⟩
      have hk : PyData.eqv (oD o) (.int (((m + 1 : Nat) : Int) - 1)) = keepP (rN z bs k) n h (j + 1) := by
        unfold keepP
        rw [← hon, hneed]
        cases o with
        | none => exact (decide_eq_false (fun hc => by cases hc.2)).symm
        | some y =>
          show PyData.eqv (.int (y : Int)) (.int _) = _
          rw [eqv_i, show ((y : Int) == ((m + 1 : Nat) : Int) - 1) = decide ((y : Int) = ((m + 1 : Nat) : Int) - 1) from rfl]
          refine decide_eq_decide.mpr ⟨fun hy => ⟨by show some (y + 1) = some (m + 1); congr 1; omega, rfl⟩, fun hy => ?_⟩
          have hy2 : some (y + 1) = some (m + 1) := hy.1
          injection hy2 with hy2
          omega
      rw [hk]
      cases hkk : keepP (rN z bs k) n h (j + 1) with
      | true =>
        rw [hkk, if_pos rfl] at hst
        refine iteT ⟨_, rfl, _, hC3, small_sz hle, ext_mut e7 hC, ?_⟩
        rw [upd_same, hst, List.map_append]
        rw [show (1 + ((j : Nat) : Int)) = ((j + 1 : Nat) : Int) by omega]
        rfl
      | false =>
        rw [hkk, if_neg Bool.false_ne_true, List.append_nil] at hst
        exact iteF ⟨e7, by rw [hst]; exact hC3⟩
    · obtain ⟨e6, hC2⟩ := pv
      refine qQ C H2 (x5.trans e6) (ext_none x5 hC) ?_
      rw [hC2]
      unfold nextP oVs
      rw [List.length_map, hLen]
      rfl
end
end K08

set_option Elab.async false
set_option maxRecDepth 100000
set_option maxHeartbeats 4000000
namespace K08
open PySem PySem.Spec PyProof.Rows L2
theorem isRow_snoc {r : Nat → Nat} {n p : Nat} (p1 : 1 ≤ p) (p2 : p ≤ r n) : ∀ {ps : List Nat} {h : Nat}, IsRow r n h ps → IsRow r (n + p) h (ps ++ [p])
  | [], h, e => by
    obtain rfl : h = n := e
    exact ⟨p1, p2, rfl⟩
  | q :: qs, h, ⟨a, b, c⟩ => ⟨a, b, isRow_snoc p1 p2 c⟩
section
variable {z k : Int} {bs : List Int}
theorem row_tp (g : OkB bs) (k0 : 0 ≤ k) (z0 : 0 ≤ z) {n : Nat} : ∀ {ps : List Nat} {h i : Nat}, IsRow (rN z bs k) n h ps → (h : Int) ≤ tp z bs k i → (n : Int) ≤ tp z bs k (i + ps.length)
  | [], h, i, e, hi => by
    obtain rfl : h = n := e
    exact hi
  | p :: ps, h, i, ⟨a, b, c⟩, hi => by
    obtain ⟨t0, tz⟩ := tp_bd g k0 z0 i
    have m := (nxt_mem (z := z) (bs := bs) (k := k) t0 z0).2 (h : Int) (by omega) hi (by omega)
    have hc := rN_cast (z := z) (bs := bs) g k0 h
    have e1 : tp z bs k (i + 1) = nxt z bs k (tp z bs k i) := rfl
    have := row_tp g k0 z0 (i := i + 1) c (by omega)
    rw [List.length_cons, show i + (ps.length + 1) = i + 1 + ps.length by omega]
    exact this
theorem tp_row (g : OkB bs) (k0 : 0 ≤ k) (z0 : 0 ≤ z) : ∀ (i x : Nat), (x : Int) ≤ tp z bs k i → ∃ ps, IsRow (rN z bs k) x 0 ps ∧ ps.length ≤ i
  | 0, x, h => by
    have h : (x : Int) ≤ 0 := h
    obtain rfl : x = 0 := by omega
    exact ⟨[], rfl, Nat.le_refl _⟩
  | i + 1, x, h => by
    by_cases hx : (x : Int) ≤ tp z bs k i
    · obtain ⟨ps, a, b⟩ := tp_row g k0 z0 i x hx
      exact ⟨ps, a, by omega⟩
    · obtain ⟨t0, tz⟩ := tp_bd g k0 z0 i
      obtain ⟨⟨hh, h0, ht, hz, e⟩, _⟩ := nxt_mem (z := z) (bs := bs) (k := k) t0 z0
      have e1 : tp z bs k (i + 1) = nxt z bs k (tp z bs k i) := rfl
      obtain ⟨a, rfl⟩ : ∃ a : Nat, hh = (a : Int) := ⟨hh.toNat, by omega⟩
      have hc := rN_cast (z := z) (bs := bs) g k0 a
      obtain ⟨ps, p1, p2⟩ := tp_row g k0 z0 i a ht
      refine ⟨ps ++ [x - a], ?_, by rw [List.length_append]; show ps.length + 1 ≤ _; omega⟩
      have := isRow_snoc (r := rN z bs k) (p := x - a) (by omega) (by omega) p1
      rw [show a + (x - a) = x by omega] at this
      exact this
theorem few_need (g : OkB bs) (k0 : 0 ≤ k) (z0 : 0 ≤ z) {n : Nat} (n1 : 1 ≤ n) : FewIs z bs k (n : Int) (need (rN z bs k) n 0) := by
  refine .inr ⟨by omega, ?_⟩
  cases e : need (rN z bs k) n 0 with
  | none =>
    refine .inr ⟨rfl, fun q => Classical.byContradiction fun hc => ?_⟩
    obtain ⟨ps, a, _⟩ := tp_row g k0 z0 q n (by omega)
    exact need_no (Nat.zero_le _) e ps a
  | some m =>
    obtain ⟨⟨ps, a, b⟩, hmin⟩ := need_some (Nat.zero_le _) e
    refine .inl ⟨m, rfl, ?_, fun q hq => Classical.byContradiction fun hc => ?_⟩
    · have := row_tp g k0 z0 (i := 0) a (Int.le_refl _)
      rw [Nat.zero_add, b] at this
      exact this
    · obtain ⟨ps', a', b'⟩ := tp_row g k0 z0 q n (by omega)
      have := hmin ps' a'
      omega
/-- the cuts of fewest pieces, in order -/
def cutsO (r : Nat → Nat) (n : Nat) : Option Nat → List (List Nat)
  | none => []
  | some m => cutsF r n m 0
def cutsI (z : Int) (bs : List Int) (k : Int) (n : Nat) : List (List Nat) := if n = 0 then [[0]] else cutsO (rN z bs k) n (need (rN z bs k) n 0)
theorem cutsI_len (n : Nat) : (cutsI z bs k n).length ≤ 2 ^ n := by
  unfold cutsI
  split
  · exact Nat.one_le_two_pow
  · cases need (rN z bs k) n 0 with
    | none => exact Nat.zero_le _
    | some m => exact cutsF_len m 0 (Nat.zero_le _)
theorem cutsI_goes (g : OkB bs) (k0 : 0 ≤ k) (z1 : 1 ≤ z) {n : Nat} (n1 : 1 ≤ n) : (need (rN z bs k) n 0).isSome = decide ((n : Int) ≤ topN z bs k) :=
  few_top g k0 z1 (by omega) (few_need g k0 (by omega) n1)
theorem topN_z (g : OkB bs) (k0 : 0 ≤ k) (z1 : 1 ≤ z) : topN z bs k ≤ z := by
  obtain ⟨N, hN⟩ := Last.ex (z := z) g k0 (by omega)
  rw [← last_top g k0 z1 hN]
  exact (tp_bd g k0 (by omega) N).2
end
/-- what waits: places with what stands behind them; m: the need there -/
def outs (r : Nat → Nat) (n : Nat) (ws : List (Nat × Nat × List Nat)) : List (List Nat) := ws.reverse.flatMap fun w => (cutsF r n w.2.1 w.1).map (w.2.2 ++ ·)
def wts (r : Nat → Nat) (n : Nat) (ws : List (Nat × Nat × List Nat)) : Nat := (ws.map fun w => wt r n w.2.1 w.1).sum
def OkW (r : Nat → Nat) (n : Nat) (ws : List (Nat × Nat × List Nat)) : Prop := ∀ w ∈ ws, w.1 ≤ n ∧ need r n w.1 = some w.2.1 ∧ w.2.2.length ≤ w.1
theorem outs_snoc {r : Nat → Nat} {n : Nat} {ws : List (Nat × Nat × List Nat)} {w : Nat × Nat × List Nat} : outs r n (ws ++ [w]) = (cutsF r n w.2.1 w.1).map (w.2.2 ++ ·) ++ outs r n ws := by
  unfold outs
  rw [List.reverse_append]
  rfl
theorem wts_snoc {r : Nat → Nat} {n : Nat} {ws : List (Nat × Nat × List Nat)} {w : Nat × Nat × List Nat} : wts r n (ws ++ [w]) = wts r n ws + wt r n w.2.1 w.1 := by
  unfold wts
  rw [List.map_append, List.sum_append]
  show _ + (_ + 0) = _
  rfl
theorem outs_app {r : Nat → Nat} {n : Nat} {ws vs : List (Nat × Nat × List Nat)} : outs r n (ws ++ vs) = outs r n vs ++ outs r n ws := by
  unfold outs
  rw [List.reverse_append, List.flatMap_append]
theorem wts_app {r : Nat → Nat} {n : Nat} {ws vs : List (Nat × Nat × List Nat)} : wts r n (ws ++ vs) = wts r n ws + wts r n vs := by
  unfold wts
  rw [List.map_append, List.sum_append]
theorem wt_pos {r : Nat → Nat} {n : Nat} : ∀ m h, 1 ≤ wt r n m h
  | 0, _ => Nat.le_refl _
  | m + 1, h => by show 1 ≤ 1 + _; omega
theorem len_flat {α β : Type} (f : α → List β) : ∀ l : List α, (∀ x ∈ l, f x ≠ []) → l.length ≤ (l.flatMap f).length
  | [], _ => Nat.le_refl _
  | x :: l, h => by
    rw [List.flatMap_cons, List.length_append, List.length_cons]
    have := len_flat f l fun y hy => h y (List.mem_cons_of_mem _ hy)
    have := List.length_pos_iff.mpr (h x List.mem_cons_self)
    omega
theorem outs_len {r : Nat → Nat} {n : Nat} {ws : List (Nat × Nat × List Nat)} (h : OkW r n ws) : ws.length ≤ (outs r n ws).length := by
  unfold outs
  rw [← List.length_reverse]
  refine len_flat _ _ fun x hx hc => ?_
  rw [List.map_eq_nil_iff] at hc
  obtain ⟨a, b, _⟩ := h x (List.mem_reverse.mp hx)
  exact cutsF_ne a b hc
/-- one place is opened -/
def opened (h m : Nat) (ps : List Nat) (l : List Nat) : List (Nat × Nat × List Nat) := l.map fun p => (h + p, m, ps ++ [p])
theorem OkW.open {r : Nat → Nat} {n h m : Nat} {ps : List Nat} (e : need r n h = some (m + 1)) (hl : ps.length ≤ h) : OkW r n (opened h m ps (nextP r n h)) := by
  intro x hx
  obtain ⟨p, hp, rfl⟩ := List.mem_map.mp hx
  obtain ⟨a, _, c, m', d, f⟩ := mem_nextP.mp hp
  rw [e] at d
  cases d
  exact ⟨c, f, by show (ps ++ [p]).length ≤ h + p; rw [List.length_append]; show ps.length + 1 ≤ _; omega⟩
theorem outs_open {r : Nat → Nat} {n h m : Nat} {ps : List Nat} : outs r n (opened h m ps (nextP r n h)) = (cutsF r n (m + 1) h).map (ps ++ ·) := by
  unfold outs opened
  show _ = (((nextP r n h).reverse).flatMap fun p => (cutsF r n m (h + p)).map (p :: ·)).map (ps ++ ·)
  rw [← List.map_reverse, List.flatMap_map, List.map_flatMap]
  congr 1
  funext p
  rw [List.map_map]
  refine List.map_congr_left fun qs _ => ?_
  show (ps ++ [p]) ++ qs = ps ++ (p :: qs)
  rw [List.append_assoc]; rfl
theorem wts_open {r : Nat → Nat} {n h m : Nat} {ps : List Nat} : wts r n (opened h m ps (nextP r n h)) + 1 = wt r n (m + 1) h := by
  unfold wts opened
  rw [List.map_map]
  show _ = 1 + _
  rw [Nat.add_comm]
  rfl
end K08

set_option Elab.async false
set_option maxRecDepth 100000
set_option maxHeartbeats 4000000
namespace K08
open PySem PySem.Spec PyProof.Rows L2
def natsV (ps : List Nat) : List V := ps.map fun p => V.int ((p : Nat) : Int)
/-- all stays but the lists that are younger than H -/
def ExtP (H H1 H2 : Hp) : Prop := ∀ a o, H1 a = some o → (H a ≠ none ∨ ∀ xs, o ≠ .lst xs) → H2 a = some o
theorem ExtP.of {H H1 H2 : Hp} (e : Ext H1 H2) : ExtP H H1 H2 := fun a o h _ => e a o h
theorem ExtP.lst {H H1 : Hp} {l : Addr} {xs : List V} {o : HO} (hn : H l = none) (hl : H1 l = some (.lst xs)) : ExtP H H1 (upd H1 l o) := fun a o' h c => by
  by_cases hal : a = l
  · subst hal
    rw [hl] at h; cases h
    rcases c with c | c
    · exact absurd hn c
    · exact absurd rfl (c xs)
  · rw [upd_ne hal]; exact h
theorem ExtP.trans {H H1 H2 H3 : Hp} (a : ExtP H H1 H2) (b : ExtP H H2 H3) : ExtP H H1 H3 := fun x o h c => b x o (a x o h c) c
/-- all stays but l -/
def EB (l : Addr) (H1 H2 : Hp) : Prop := ∀ a o, a ≠ l → H1 a = some o → H2 a = some o
theorem EB.refl {l : Addr} {H1 : Hp} : EB l H1 H1 := fun _ _ _ h => h
theorem EB.trans {l : Addr} {H1 H2 H3 : Hp} (a : EB l H1 H2) (b : EB l H2 H3) : EB l H1 H3 := fun x o n h => b x o n (a x o n h)
theorem EB.ext {l : Addr} {H1 H2 : Hp} (e : Ext H1 H2) : EB l H1 H2 := fun x o _ h => e x o h
theorem EB.put {l : Addr} {H1 : Hp} {o : HO} : EB l H1 (upd H1 l o) := fun x o' n h => by rw [upd_ne n]; exact h
theorem EB.stays {l a : Addr} {H1 H2 : Hp} (e : EB l H1 H2) (h : H1 a ≠ none) (hl : H2 l ≠ none) : H2 a ≠ none := by
  by_cases hal : a = l
  · rw [hal]; exact hl
  · cases q : H1 a with
    | none => exact absurd q h
    | some o => rw [e a o hal q]; exact fun z => nomatch z
theorem EB.p {H H1 H2 : Hp} {l : Addr} {xs : List V} (e : EB l H1 H2) (hn : H l = none) (hl : H1 l = some (.lst xs)) : ExtP H H1 H2 := fun a o h c => by
  by_cases hal : a = l
  · subst hal
    rw [hl] at h; cases h
    rcases c with c | c
    · exact absurd hn c
    · exact absurd rfl (c xs)
  · exact e a o hal h
/-- what a consumer of L promises and wants; W: its state by what is out -/
structure Feed {α : Type} (c : α → List V) (L : List α) (H : Hp) (Dl : Deal) (Q : List V → Hp → Prop) (W : List V → Hp → Prop) : Prop where
  w0 : W [] H
  ext : ∀ ys H1 H2, W ys H1 → ExtP H H1 H2 → W ys H2
  kp : ∀ ys x H1 H2, Dl.kp ys x H1 H2 → W (ys ++ [x]) H2 ∧ (∀ a o, H a = none → H1 a = some o → H2 a = some o) ∧ ∀ a, H1 a ≠ none → H2 a ≠ none
  yd : ∀ ys t H1 ps, L[ys.length]? = some ps → W ys H1 → H1 t = some (.tup (c ps)) → Dl.yd ys (.ref t) H1
  en : ∀ ys H1, ys.length = L.length → W ys H1 → Q ys H1
theorem natsV_snoc {ps : List Nat} {p : Nat} : natsV ps ++ [V.int ((p : Nat) : Int)] = natsV (ps ++ [p]) := by
  unfold natsV
  rw [List.map_append]; rfl
/-- a place that waits: its tuple, the tuple of the pieces ahead, the place, its need, the pieces -/
abbrev Wait := Addr × Addr × Nat × Nat × List Nat
def WtAt (H H' : Hp) (w : Wait) : Prop := H w.1 = none ∧ H w.2.1 = none ∧ H' w.1 = some (.tup [.int ((w.2.2.1 : Nat) : Int), .ref w.2.1]) ∧ H' w.2.1 = some (.tup (natsV w.2.2.2.2))
theorem WtAt.keep {H H1 H2 : Hp} {w : Wait} (h : WtAt H H1 w) (e : ExtP H H1 H2) : WtAt H H2 w := ⟨h.1, h.2.1, e _ _ h.2.2.1 (.inr fun _ z => nomatch z), e _ _ h.2.2.2 (.inr fun _ z => nomatch z)⟩
def refsW (ws : List Wait) : List V := ws.map fun w => V.ref w.1
theorem cut_fin {r : Nat → Nat} {n m : Nat} (e : need r n n = some m) : cutsF r n m n = [[]] := by
  rw [need_n] at e
  cases e
  rfl
/-- the loop of cuts: r, p, q, l: room, reaches, needs, what waits -/
def CutInv (H : Hp) (r p q l : Addr) (z : Int) (bs : List Int) (k : Int) (n : Nat) (W : List V → Hp → Prop) (m : Nat) (ys : List V) (σ : L2.St) (H' : Hp) : Prop :=
  ∃ (ws : List Wait) (o6 o7 o8 : Option V), σ = [some (.ref r), some (.int k), some (.int (n : Int)), some (.ref p), some (.ref q), some (.ref l), o6, o7, o8] ∧ H' p = some (.lst ((rchs z bs k).map V.int)) ∧ H' q = some (.lst (oVs (needL (rN z bs k) n n))) ∧ H' l = some (.lst (refsW ws)) ∧
    (∀ x ∈ ws, WtAt H H' x) ∧ OkW (rN z bs k) n (ws.map fun x => x.2.2) ∧ ys.length ≤ (cutsI z bs k n).length ∧ outs (rN z bs k) n (ws.map fun x => x.2.2) = (cutsI z bs k n).drop ys.length ∧ W ys H' ∧ (∀ a, H a ≠ none → H' a ≠ none) ∧ m = wts (rN z bs k) n (ws.map fun x => x.2.2)
section
variable {P : Program} {w : World} {K : PySem.W.Frag} {mg : Str → Option Value} {base : Heap} {A : Ad}
def spCuts (K : PySem.W.Frag) (A : Ad) : SpG3 := fun vs H Dl Q _ => ∃ (r : Addr) (z : Int) (bs : List Int) (k : Int) (n : Nat), vs = [.ref r, .int k, .int (n : Int)] ∧ RmAt K A H r z bs ∧ OkB bs ∧ 1 ≤ z ∧ z ≤ 60 ∧ 0 ≤ k ∧ k ≤ 99 ∧ n ≤ 20 ∧ ∃ W, Feed natsV (cutsI z bs k n) H Dl Q W
theorem cuts_two (T : Txt K mg A) (O_check_goods : Own P w K mg base (L2.CX P w) "check_goods" 4 pm_check_goods (spGoods K A)) (O_goes : Own P w K mg base (L2.CX P w) "goes" 5 pm_goes (spGoes K A)) (O_reaches_of : Own P w K mg base (L2.CX P w) "reaches_of" 5 pm_reaches_of (spReaches K A))
    (O_needs_of : Own P w K mg base CX0 "needs_of" 2 pm_needs_of (spNeeds K)) (O_next_pieces : Own P w K mg base CX0 "next_pieces" 2 pm_next_pieces (spNext K)) :
    ∃ t : XK → Deal → TGn, (∀ (f : Addr) (cdv : Value) (A' : Around) (outer : List Env) (sh : Shared) (H : Hp) (Dl : Deal) (E : XK) (pn : List (Addr × Obj)) (Fm : Cx → Prop) (X : Cx), Fm = FmG P w K mg base nm_cuts "cuts" (defScope s_cuts) f cdv A' outer E pn sh.heap.objs.size → X = gcxOf P w K mg base nm_cuts "cuts" (defScope s_cuts) f cdv A' outer sh H E pn →
        Fam Fm sh.heap.objs.size X → Room 5 (A'.deeper (envOfC "cuts" (defScope s_cuts) sh.heap.objs.size f cdv)) → GQs Fm sh.heap.objs.size X Dl (defBody s_cuts) (t E Dl)) ∧
      (∀ (f : Addr) (cdv : Value) (A' : Around) (outer : List Env) (sh : Shared) (H : Hp) (Dl : Deal) (E : XK) (pn : List (Addr × Obj)), Dl.Still → Room 5 (A'.deeper (envOfC "cuts" (defScope s_cuts) sh.heap.objs.size f cdv)) → GSs (gcxOf P w K mg base nm_cuts "cuts" (defScope s_cuts) f cdv A' outer sh H E pn) (defBody s_cuts) (t E Dl)) ∧
      ∀ (vs : List V) (H : Hp) (Dl : Deal) (Q : List V → Hp → Prop) (E : XK), spCuts K A vs H Dl Q E → t E Dl { nx := fun ys _ H' => Q ys H', rt := fun ys v H' => v = .non ∧ Q ys H' } [] (start nm_cuts vs) H := by
  refine ⟨_, fun f cdv A' outer sh H Dl E pn Fm X hFm hX FF hr => by
      subst hFm hX
      exact gqs_cons (gq_ps FF (fun Z hZ => by (obtain ⟨s3, H3, hs3, rfl⟩ := hZ; replace hr := FmG.room hr hs3; exact ps_expr (pe_ownS O_check_goods (hr.mono (by decide)) takes_gcx (pa_cons (pv 0) (pa_cons (pv 1) (pa_cons (pv 2) pa_nil))))))) (gqs_cons (gq_if FF (fun Z hZ => by (obtain ⟨s3, H3, hs3, rfl⟩ := hZ; replace hr := FmG.room hr hs3; exact pt_cmpR op_eq (pv 2) (pe_int) (nomark _))) (gqs_cons (gq_yield FF (fun Z hZ => by (obtain ⟨s3, H3, hs3, rfl⟩ := hZ; replace hr := FmG.room hr hs3; exact pe_tup (pa_cons (pe_int) pa_nil)))) (gqs_nil)) (gqs_cons (gq_if FF (fun Z hZ => by (obtain ⟨s3, H3, hs3, rfl⟩ := hZ; replace hr := FmG.room hr hs3; exact pt_val (pe_ownS O_goes (hr.mono (by decide)) takes_gcx (pa_cons (pv 0) (pa_cons (pv 1) (pa_cons (pv 2) pa_nil)))))) (gqs_cons (gq_ps FF (fun Z hZ => by (obtain ⟨s3, H3, hs3, rfl⟩ := hZ; replace hr := FmG.room hr hs3; exact ps_set (i := 3) sc_cuts.nd rfl (Or.inl rfl) (pe_ownS O_reaches_of (hr.mono (by decide)) takes_gcx (pa_cons (pv 0) (pa_cons (pv 1) pa_nil)))))) (gqs_cons (gq_ps FF (fun Z hZ => by (obtain ⟨s3, H3, hs3, rfl⟩ := hZ; replace hr := FmG.room hr hs3; exact ps_set (i := 4) sc_cuts.nd rfl (Or.inl rfl) (pe_own O_needs_of (hr.mono (by decide)) pass0 (pa_cons (pv 3) (pa_cons (pv 2) pa_nil)))))) (gqs_cons (gq_ps FF (fun Z hZ => by (obtain ⟨s3, H3, hs3, rfl⟩ := hZ; replace hr := FmG.room hr hs3; exact ps_set (i := 5) sc_cuts.nd rfl (Or.inl rfl) (pe_lst (pa_cons (pe_tup (pa_cons (pe_int) (pa_cons (pe_tup (pa_nil)) pa_nil))) pa_nil))))) (gqs_cons (gq_while FF (fun Z hZ => by (obtain ⟨s3, H3, hs3, rfl⟩ := hZ; have o := owns_gcx (P := P) (w := w) (K := K) (mg := mg) (base := base) (N := nm_cuts) (qual := "cuts") (scope := defScope s_cuts) (f := f) (cd := cdv) (A := A') (outer := outer) (s := s3) (H := H3) (E := E) (pn := pn); have e3 : (gcxOf P w K mg base nm_cuts "cuts" (defScope s_cuts) f cdv A' outer s3 H3 E pn).env = (gcxOf P w K mg base nm_cuts "cuts" (defScope s_cuts) f cdv A' outer sh H E pn).env := (by (show envOfC _ _ _ _ _ = envOfC _ _ _ _ _; rw [hs3])); have a3 : (gcxOf P w K mg base nm_cuts "cuts" (defScope s_cuts) f cdv A' outer s3 H3 E pn).A = (gcxOf P w K mg base nm_cuts "cuts" (defScope s_cuts) f cdv A' outer sh H E pn).A := (by (show Around.deeper _ _ = Around.deeper _ _; rw [hs3])); rw [e3, a3] at o; exact o)) (fun Z hZ => by (obtain ⟨s3, H3, hs3, rfl⟩ := hZ; replace hr := FmG.room hr hs3; exact pt_truthK (K := K) rfl (pv 5) (by intro _; rfl))) (gqs_cons (gq_ps FF (fun Z hZ => by (obtain ⟨s3, H3, hs3, rfl⟩ := hZ; replace hr := FmG.room hr hs3; exact ps_asg (pe_bm0N (K := K) rfl PySem.F.plainAttrs_list PySem.F.slot_list_pop PySem.F.type_list_pop mt_pop (pv 5)) (pg_tupN (K := K) (n := 2) rfl rfl (pgs_cons (pg_name (i := 6) sc_cuts.nd rfl (Or.inl rfl)) (pgs_cons (pg_name (i := 7) sc_cuts.nd rfl (Or.inl rfl)) (pgs_nil))))))) (gqs_cons (gq_if FF (fun Z hZ => by (obtain ⟨s3, H3, hs3, rfl⟩ := hZ; replace hr := FmG.room hr hs3; exact pt_cmpR op_eq (pv 6) (pv 2) (nomark _))) (gqs_cons (gq_yield FF (fun Z hZ => by (obtain ⟨s3, H3, hs3, rfl⟩ := hZ; replace hr := FmG.room hr hs3; exact pv 7))) (gqs_nil)) (gqs_pss FF (fun Z hZ => by (obtain ⟨s3, H3, hs3, rfl⟩ := hZ; replace hr := FmG.room hr hs3; exact pss_one (ps_for owns_gcx rfl (pi_listK (K := K) rfl (pe_own O_next_pieces (hr.mono (by decide)) pass0 (pa_cons (pv 3) (pa_cons (pv 4) (pa_cons (pv 6) pa_nil))))) (pg_name (i := 8) sc_cuts.nd rfl (Or.inl rfl)) (pss_one (ps_expr (pe_bmN (K := K) rfl PySem.F.plainAttrs_list PySem.F.slot_list_append PySem.F.type_list_append mt_append (pv 5) (pa_cons (pe_tup (pa_cons (pe_op op_add (pv 6) (pv 8)) (pa_cons (pe_tup (pa_starN (K := K) rfl (pv 7) (pa_cons (pv 8) pa_nil))) pa_nil))) pa_nil))))))))) (gqs_nil)))) (gqs_nil))))) (gqs_nil)) (gqs_nil))) (gqs_nil)), fun f cdv A' outer sh H Dl E pn hD hr => gss_cons (gs_ps (ps_expr (pe_ownS O_check_goods (hr.mono (by decide)) takes_gcx (pa_cons (pv 0) (pa_cons (pv 1) (pa_cons (pv 2) pa_nil)))))) (gss_cons (gs_if (pt_cmpR op_eq (pv 2) (pe_int) (nomark _)) (gss_cons (gs_yield3 hD (pe_tup (pa_cons (pe_int) pa_nil))) (gss_nil)) (gss_cons (gs_if (pt_val (pe_ownS O_goes (hr.mono (by decide)) takes_gcx (pa_cons (pv 0) (pa_cons (pv 1) (pa_cons (pv 2) pa_nil))))) (gss_cons (gs_ps (ps_set (i := 3) sc_cuts.nd rfl (Or.inl rfl) (pe_ownS O_reaches_of (hr.mono (by decide)) takes_gcx (pa_cons (pv 0) (pa_cons (pv 1) pa_nil))))) (gss_cons (gs_ps (ps_set (i := 4) sc_cuts.nd rfl (Or.inl rfl) (pe_own O_needs_of (hr.mono (by decide)) pass0 (pa_cons (pv 3) (pa_cons (pv 2) pa_nil))))) (gss_cons (gs_ps (ps_set (i := 5) sc_cuts.nd rfl (Or.inl rfl) (pe_lst (pa_cons (pe_tup (pa_cons (pe_int) (pa_cons (pe_tup (pa_nil)) pa_nil))) pa_nil)))) (gss_cons (gs_while owns_gcx (pt_truthK (K := K) rfl (pv 5) (by intro _; rfl)) (gss_cons (gs_ps (ps_asg (pe_bm0N (K := K) rfl PySem.F.plainAttrs_list PySem.F.slot_list_pop PySem.F.type_list_pop mt_pop (pv 5)) (pg_tupN (K := K) (n := 2) rfl rfl (pgs_cons (pg_name (i := 6) sc_cuts.nd rfl (Or.inl rfl)) (pgs_cons (pg_name (i := 7) sc_cuts.nd rfl (Or.inl rfl)) (pgs_nil)))))) (gss_cons (gs_if (pt_cmpR op_eq (pv 6) (pv 2) (nomark _)) (gss_cons (gs_yield3 hD (pv 7)) (gss_nil)) (gss_pss (pss_one (ps_for owns_gcx rfl (pi_listK (K := K) rfl (pe_own O_next_pieces (hr.mono (by decide)) pass0 (pa_cons (pv 3) (pa_cons (pv 4) (pa_cons (pv 6) pa_nil))))) (pg_name (i := 8) sc_cuts.nd rfl (Or.inl rfl)) (pss_one (ps_expr (pe_bmN (K := K) rfl PySem.F.plainAttrs_list PySem.F.slot_list_append PySem.F.type_list_append mt_append (pv 5) (pa_cons (pe_tup (pa_cons (pe_op op_add (pv 6) (pv 8)) (pa_cons (pe_tup (pa_starN (K := K) rfl (pv 7) (pa_cons (pv 8) pa_nil))) pa_nil))) pa_nil)))))))) (gss_nil)))) (gss_nil))))) (gss_nil)) (gss_nil))) (gss_nil)), fun vs H Dl Q E h => ?_⟩
  · obtain ⟨r, z, bs, k, n, rfl, hR, g, z1, z60, k0, k99, n20, W, fd⟩ := h
    have n0 : (0 : Int) ≤ (n : Int) := by omega
    have n1 : (n : Int) ≤ 99 := by omega
    have hLs : ∀ i, i < (cutsI z bs k n).length → i < sizeLine := fun i hi => by
      have := cutsI_len (z := z) (bs := bs) (k := k) n
      have h2 : 2 ^ n ≤ 2 ^ 20 := Nat.pow_le_pow_right (by decide) n20
      rw [sizeLine_eq]
      omega
    refine ⟨_, rfl, _, rfl, _, rfl, r, z, bs, k, n, rfl, hR, k0, k99, n0, n1, ?_⟩
    refine ⟨_, rfl, rfl, _, rfl, ?_⟩
    rw [dvi]
    by_cases hn : (n : Int) = 0
    · rw [decide_eq_true hn]
      obtain rfl : n = 0 := by omega
      refine iteT ⟨by decide, by show 1 ≤ sizeLine; decide, fun t ht => ?_⟩
      have e1 := Ext.upd (o := .tup [V.int 0]) ht
      refine ⟨fd.yd [] t _ [0] rfl (fd.ext _ _ _ fd.w0 (.of e1)) upd_same, fun H2 hk => ?_⟩
      exact fd.en [V.ref t] H2 rfl (fd.kp _ _ _ _ hk).1
    · rw [decide_eq_false hn]
      have n1' : 1 ≤ n := by omega
      have hL : cutsI z bs k n = cutsO (rN z bs k) n (need (rN z bs k) n 0) := by
        unfold cutsI
        rw [if_neg (by omega)]
      have hgo := cutsI_goes (z := z) (k := k) g k0 z1 n1'
      refine iteF ⟨_, rfl, _, rfl, _, rfl, r, z, bs, k, n, rfl, hR, g, k0, k99, n0, n1, _, rfl, ?_⟩
      cases hneed : need (rN z bs k) n 0 with
      | none =>
        rw [hneed] at hgo hL
        rw [← hgo]
        exact iteF (fd.en [] H (by rw [hL]; rfl) fd.w0)
      | some m0 =>
        rw [hneed] at hgo hL
        rw [← hgo]
        have nz : (n : Int) ≤ z := Int.le_trans (of_decide_eq_true hgo.symm) (topN_z g k0 z1)
        refine iteT ⟨_, rfl, _, rfl, r, z, bs, k, rfl, hR, g, z1, z60, k0, k99, fun p H1 e1 np hp => ?_⟩
        refine ⟨_, rfl, _, rfl, p, z, bs, k, n, rfl, hp, g, k0, k99, nz, z60, fun q H2 e2 nq1 hq => ?_⟩
        have nq := ext_none e1 nq1
        have e12 := e1.trans e2
        have hp2 := e2 _ _ hp
        refine ⟨by show 0 ≤ sizeLine; decide, fun t0 ht0 => ⟨by show 2 ≤ sizeLine; decide, fun t1 ht1 => ⟨by show 1 ≤ sizeLine; decide, fun l hl => ?_⟩⟩⟩
        have x0 := Ext.upd (o := .tup []) ht0
        have x1 := Ext.upd (o := .tup [V.int 0, .ref t0]) ht1
        have x2 := Ext.upd (o := .lst [V.ref t1]) hl
        have x02 := (x0.trans x1).trans x2
        have hA : ∃ H3, H3 = upd (upd (upd H2 t0 (.tup [])) t1 (.tup [V.int 0, .ref t0])) l (.lst [V.ref t1]) := ⟨_, rfl⟩
        obtain ⟨H3, hH3⟩ := hA
        rw [← hH3] at x02 ⊢
        have hl3 : H3 l = some (.lst (refsW [(t1, t0, 0, m0, [])])) := by rw [hH3, upd_same]; rfl
        have nl := ext_none (e12.trans (x0.trans x1)) hl
        have hw3 : WtAt H H3 (t1, t0, 0, m0, []) := by
          refine ⟨ext_none (e12.trans x0) ht1, ext_none e12 ht0, ?_, ?_⟩
          · rw [hH3]; exact x2 _ _ upd_same
          · rw [hH3]; exact x2 _ _ (x1 _ _ upd_same)
        have hlp : p ≠ l := fun z => by
          have := (x0.trans x1) _ _ hp2
          rw [z, hl] at this; cases this
        have hlq : q ≠ l := fun z => by
          have := (x0.trans x1) _ _ hq
          rw [z, hl] at this; cases this
        have e3 := e12.trans x02
        have hp3 := x02 _ _ hp2
        have hq3 := x02 _ _ hq
        clear hH3 x0 x1 x2
        refine ⟨CutInv H r p q l z bs k n W, ⟨_, [(t1, t0, 0, m0, [])], _, _, _, rfl, hp3, hq3, hl3, ?_, ?_, Nat.zero_le _, ?_, fd.ext _ _ _ fd.w0 (.of e3), fun a ha hc => ha (ext_none e3 hc), rfl⟩, ?_⟩
        · intro x hx
          rw [List.mem_singleton.mp hx]
          exact hw3
        · intro x hx
          rw [List.mem_singleton.mp hx]
          exact ⟨Nat.zero_le _, hneed, Nat.le_refl _⟩
        · rw [hL]
          show (List.map ([] ++ ·) (cutsF (rN z bs k) n m0 0)) ++ [] = cutsF (rN z bs k) n m0 0
          rw [List.append_nil]
          exact List.map_id' _
        · rintro m ys σ H' ⟨ws, o6, o7, o8, rfl, hp', hq', hl', hws, hok, hys, hout, hW, hst, rfl⟩
          refine ⟨_, rfl, _, .inl ⟨_, SqL.of hl', rfl⟩, ?_⟩
          rcases List.eq_nil_or_concat ws with rfl | ⟨ws', w, rfl⟩
          · refine fd.en ys H' ?_ hW
            have h0 : (cutsI z bs k n).drop ys.length = [] := hout.symm
            have := List.drop_eq_nil_iff.mp h0
            omega
          · rw [List.concat_eq_append] at *
            obtain ⟨t, t2, h, m, ps⟩ := w
            have hr : refsW (ws' ++ [(t, t2, h, m, ps)]) = refsW ws' ++ [V.ref t] := by unfold refsW; rw [List.map_append]; rfl
            rw [hr] at hl' ⊢
            rw [List.map_append, List.map_cons, List.map_nil] at hok hout ⊢
            rw [outs_snoc] at hout
            rw [wts_snoc]
            have hwt := hws _ (List.mem_append_right _ (List.mem_singleton.mpr rfl))
            obtain ⟨okn, oks, okl⟩ := hok _ (List.mem_append_right _ (List.mem_singleton.mpr rfl))
            have okr : OkW (rN z bs k) n (ws'.map fun x => x.2.2) := fun x hx => hok x (List.mem_append_left _ hx)
            have hwr : ∀ x ∈ ws', WtAt H H' x := fun x hx => hws x (List.mem_append_left _ hx)
            rw [show (!(refsW ws' ++ [V.ref t]).isEmpty) = true by cases refsW ws' <;> rfl]
            refine iteT ⟨fun ys' σ' H' => ∃ m', m' < wts (rN z bs k) n (ws'.map fun x => x.2.2) + wt (rN z bs k) n m h ∧ CutInv H r p q l z bs k n W m' ys' σ' H', fun _ _ _ hN => hN, ?_⟩
            have xl := ExtP.lst (o := .lst (refsW ws')) nl hl'
            refine ⟨_, rfl, .inl ⟨rfl, _, SqL.of hl'⟩, l, _, .ref t, rfl, rfl, hl', by simp, ?_⟩
            rw [List.dropLast_concat]
            have hl1 : upd H' l (.lst (refsW ws')) l = some (.lst (refsW ws')) := upd_same
            have xe : EB l H' (upd H' l (.lst (refsW ws'))) := EB.put
            have hp1 := xe _ _ hlp hp'
            have hq1 := xe _ _ hlq hq'
            have hw1 : ∀ x ∈ ws', WtAt H (upd H' l (.lst (refsW ws'))) x := fun x hx => (hwr x hx).keep xl
            have ht1 := hwt.keep xl
            have hW1 := fd.ext _ _ _ hW xl
            have hst1 : ∀ a, H a ≠ none → upd H' l (.lst (refsW ws')) a ≠ none := fun a ha => by
              rw [upd_ne (fun z => ha (by rw [z]; exact nl))]
              exact hst a ha
            generalize upd H' l (.lst (refsW ws')) = H1 at hl1 hp1 hq1 hw1 ht1 hW1 hst1 ⊢
            clear xl xe
            refine ⟨t, _, rfl, SqT.of ht1.2.2.1, rfl, _, _, rfl, _, _, rfl, rfl, ?_⟩
            refine ⟨_, rfl, _, rfl, rfl, _, rfl, ?_⟩
            rw [dvi]
            by_cases hhn : (h : Int) = (n : Int)
            · rw [decide_eq_true hhn]
              obtain rfl : h = n := by omega
              dsimp only at hout oks
              rw [cut_fin oks] at hout
              have h0 : ((cutsI z bs k h).drop ys.length)[0]? = some ps := by
                rw [← hout]
                show some (ps ++ []) = _
                rw [List.append_nil]
              rw [List.getElem?_drop, Nat.add_zero] at h0
              have hlt := (List.getElem?_eq_some_iff.mp h0).1
              refine iteT ⟨hLs _ hlt, _, rfl, fd.yd ys t2 _ ps h0 hW1 ht1.2.2.2, fun H2 hk => ?_⟩
              obtain ⟨hW2, keep, stay⟩ := fd.kp _ _ _ _ hk
              refine ⟨_, Nat.lt_add_of_pos_right (wt_pos m h), ws', _, _, _, rfl, keep _ _ np hp1, keep _ _ nq hq1, keep _ _ nl hl1, fun x hx => ⟨(hw1 x hx).1, (hw1 x hx).2.1, keep _ _ (hw1 x hx).1 (hw1 x hx).2.2.1, keep _ _ (hw1 x hx).2.1 (hw1 x hx).2.2.2⟩, okr, ?_, ?_, hW2, fun a ha => stay a (hst1 a ha), rfl⟩
              · rw [List.length_append]; exact hlt
              · rw [List.length_append]
                show _ = (cutsI z bs k h).drop (ys.length + 1)
                rw [← List.tail_drop, ← hout]
                rfl
            · rw [decide_eq_false hhn]
              have hlt : h < n := by
                have : h ≤ n := okn
                omega
              dsimp only at oks
              obtain ⟨m1, rfl⟩ : ∃ m1, m = m1 + 1 := ⟨m - 1, by have := ((need_step hlt).mp oks).1; omega⟩
              refine iteF ⟨_, rfl, _, rfl, _, rfl, p, q, z, bs, k, n, h, m1, rfl, hp1, hq1, g, k0, k99, nz, z60, hlt, oks, fun l6 H2 e2 nl6 hl6 => ⟨l6, rfl, ⟨_, SqL.of hl6⟩, ?_⟩⟩
              have hne6 : l6 ≠ l := fun z => by rw [z, hl1] at nl6; cases nl6
              have hl2 := e2 _ _ hl1
              have hlen0 : (refsW ws').length ≤ 2 ^ 20 := by
                unfold refsW
                have h1 := outs_len okr
                have h2 : (outs (rN z bs k) n (ws'.map fun x => x.2.2)).length ≤ (cutsI z bs k n).length := by
                  have h3 := congrArg List.length hout
                  rw [List.length_append, List.length_drop] at h3
                  omega
                have h4 := cutsI_len (z := z) (bs := bs) (k := k) n
                have h5 : 2 ^ n ≤ 2 ^ 20 := Nat.pow_le_pow_right (by decide) n20
                rw [List.length_map] at h1 ⊢
                omega
              refine for_list (xs := (nextP (rN z bs k) n h).map fun x => V.int ((x : Nat) : Int)) (fun j σ2 H3 => ∃ (vs : List Wait) (o8 : Option V), σ2 = [some (.ref r), some (.int k), some (.int (n : Int)), some (.ref p), some (.ref q), some (.ref l), some (.int (h : Int)), some (.ref t2), o8] ∧ EB l H2 H3 ∧ H3 l = some (.lst (refsW (ws' ++ vs))) ∧
                (∀ x ∈ vs, WtAt H H3 x) ∧ (vs.map fun x => x.2.2) = opened h m1 ps ((nextP (rN z bs k) n h).take j)) ⟨[], _, rfl, .refl, by rw [List.append_nil]; exact hl2, (fun x hx => absurd hx List.not_mem_nil), by rw [List.take_zero]; rfl⟩ (fun j σ2 H3 _ pv => by obtain ⟨_, _, _, e3, _⟩ := pv; exact SqL.of (e3 _ _ hne6 hl6)) (fun j x σ2 H3 hx pv => ?_) (fun σ2 H3 pv => ?_)
              · obtain ⟨vs, o8, rfl, e3, hl3', hv, hvs⟩ := pv
                rw [List.getElem?_map] at hx
                obtain ⟨pc, hpc, rfl⟩ := Option.map_eq_some_iff.mp hx
                have ht2 : H3 t2 = some (.tup (natsV ps)) := e3 _ _ (fun z => by rw [z] at ht1; have := ht1.2.2.2; dsimp only at this; rw [hl1] at this; cases this) (e2 _ _ ht1.2.2.2)
                refine ⟨_, rfl, .inl ⟨rfl, _, SqL.of hl3'⟩, _, rfl, _, rfl, _, _, rfl, rfl, _, rfl, t2, _, rfl, .inl (SqT.of ht2), _, rfl, ?_⟩
                have hvl : vs.length ≤ 20 := by
                  have h1 := congrArg List.length hvs
                  unfold opened at h1
                  rw [List.length_map, List.length_map, List.length_take] at h1
                  have := nextP_len (r := rN z bs k) (n := n) (h := h)
                  omega
                have hpn : (natsV ps).length ≤ 20 := by
                  unfold natsV
                  rw [List.length_map]
                  have : ps.length ≤ h := okl
                  omega
                refine ⟨by rw [List.length_append]; exact Nat.le_of_lt (small_sz (show (natsV ps).length + 1 ≤ 2000 by omega)), fun ta hta => ⟨by show 2 ≤ sizeLine; decide, fun tb htb => ?_⟩⟩
                have xa := Ext.upd (o := .tup (natsV ps ++ [V.int ((pc : Nat) : Int)])) hta
                have xb := Ext.upd (o := .tup [V.int ((h : Int) + (pc : Int)), .ref ta]) htb
                have xab := xa.trans xb
                have e13 := (EB.ext e2).trans e3
                have fresh : ∀ a, H3 a = none → H a = none := fun a ha => Classical.byContradiction fun hc => e13.stays (hst1 a hc) (by rw [hl3']; exact fun z => nomatch z) ha
                have na := fresh ta hta
                have nb := fresh tb (ext_none xa htb)
                have hl4 := xab _ _ hl3'
                have hta4 : upd (upd H3 ta (.tup (natsV ps ++ [V.int ((pc : Nat) : Int)]))) tb (.tup [V.int ((h : Int) + (pc : Int)), .ref ta]) ta = some (.tup (natsV (ps ++ [pc]))) := by
                  rw [← natsV_snoc]; exact xb _ _ upd_same
                have htb4 : upd (upd H3 ta (.tup (natsV ps ++ [V.int ((pc : Nat) : Int)]))) tb (.tup [V.int ((h : Int) + (pc : Int)), .ref ta]) tb = some (.tup [V.int (((h + pc : Nat)) : Int), .ref ta]) := by
                  rw [upd_same, show ((h : Int) + (pc : Int)) = ((h + pc : Nat) : Int) by omega]
                generalize upd (upd H3 ta (.tup (natsV ps ++ [V.int ((pc : Nat) : Int)]))) tb (.tup [V.int ((h : Int) + (pc : Int)), .ref ta]) = H4 at xab hl4 hta4 htb4 ⊢
                refine ⟨l, _, _, rfl, rfl, hl4, ?_, vs ++ [(tb, ta, h + pc, m1, ps ++ [pc])], _, rfl, (e3.trans (EB.ext xab)).trans EB.put, ?_, fun x hx => ?_, ?_⟩
                · have : (refsW (ws' ++ vs)).length = (refsW ws').length + vs.length := by
                    unfold refsW
                    rw [List.length_map, List.length_append, List.length_map]
                  rw [this, sizeLine_eq]
                  omega
                · rw [upd_same, ← List.append_assoc]
                  unfold refsW
                  rw [List.map_append (l₂ := [(tb, ta, h + pc, m1, ps ++ [pc])])]
                  rfl
                · have xq : EB l H4 (upd H4 l (.lst (refsW (ws' ++ vs) ++ [V.ref tb]))) := EB.put
                  rcases List.mem_append.mp hx with hx | hx
                  · exact ((hv x hx).keep (.of xab)).keep (xq.p nl hl4)
                  · rw [List.mem_singleton.mp hx]
                    exact WtAt.keep ⟨nb, na, htb4, hta4⟩ (xq.p nl hl4)
                · rw [List.map_append, hvs, take_snoc hpc]
                  unfold opened
                  rw [List.map_append]
                  rfl
              · obtain ⟨vs, o8, rfl, e3, hl3', hv, hvs⟩ := pv
                rw [List.length_map, List.take_length] at hvs
                have e13 := (EB.ext e2).trans e3
                refine ⟨wts (rN z bs k) n ((ws' ++ vs).map fun x => x.2.2), ?_, ws' ++ vs, _, _, _, rfl, e13 _ _ hlp hp1, e13 _ _ hlq hq1, hl3', fun x hx => ?_, ?_, hys, ?_, fd.ext _ _ _ hW1 (e13.p nl hl1), fun a ha => e13.stays (hst1 a ha) (by rw [hl3']; exact fun z => nomatch z), rfl⟩
                · rw [List.map_append, hvs, wts_app]
                  have := wts_open (r := rN z bs k) (n := n) (h := h) (m := m1) (ps := ps)
                  omega
                · rcases List.mem_append.mp hx with hx | hx
                  · exact (hw1 x hx).keep (e13.p nl hl1)
                  · exact hv x hx
                · rw [List.map_append, hvs]
                  intro x hx
                  rcases List.mem_append.mp hx with hx | hx
                  · exact okr x hx
                  · exact OkW.open oks okl x hx
                · rw [List.map_append, hvs, outs_app, outs_open]
                  exact hout
end
end K08

set_option Elab.async false
set_option maxRecDepth 100000
set_option maxHeartbeats 4000000
namespace K08
open PySem PySem.Spec PyProof.Rows L2
/-- the tuples ys are the rows of L, as far as they go -/
def TupsAt {α : Type} (c : α → List V) (L : List α) (ys : List V) (H : Hp) : Prop := ∀ (i : Nat) (v : V), ys[i]? = some v → ∃ (t : Addr) (ps : α), v = V.ref t ∧ L[i]? = some ps ∧ H t = some (.tup (c ps))
theorem TupsAt.keep {α : Type} {c : α → List V} {L : List α} {ys : List V} {H0 H H' : Hp} (h : TupsAt c L ys H) (e : ExtP H0 H H') : TupsAt c L ys H' := fun i v hv => by
  obtain ⟨t, ps, a, b, c⟩ := h i v hv
  exact ⟨t, ps, a, b, e _ _ c (.inr fun _ z => nomatch z)⟩
theorem TupsAt.snoc {α : Type} {c : α → List V} {L : List α} {ys : List V} {H : Hp} {t : Addr} {ps : α} (h : TupsAt c L ys H) (hp : L[ys.length]? = some ps) (ht : H t = some (.tup (c ps))) : TupsAt c L (ys ++ [.ref t]) H := fun i v hv => by
  by_cases hi : i < ys.length
  · rw [List.getElem?_append_left hi] at hv
    exact h i v hv
  · have hl := (List.getElem?_eq_some_iff.mp hv).1
    rw [List.length_append] at hl
    have hl : i < ys.length + 1 := hl
    obtain rfl : i = ys.length := by omega
    rw [List.getElem?_append_right (Nat.le_refl _), Nat.sub_self] at hv
    cases hv
    exact ⟨t, ps, rfl, hp, ht⟩
section
variable {P : Program} {w : World} {K : PySem.W.Frag} {mg : Str → Option Value} {base : Heap} {A : Ad}
theorem ok_cuts {f : Addr} {fd : FuncData} (F : Fun K "cuts" "cuts" s_cuts f fd) (T : Txt K mg A) (O_check_goods : Own P w K mg base (L2.CX P w) "check_goods" 4 pm_check_goods (spGoods K A)) (O_goes : Own P w K mg base (L2.CX P w) "goes" 5 pm_goes (spGoes K A)) (O_reaches_of : Own P w K mg base (L2.CX P w) "reaches_of" 5 pm_reaches_of (spReaches K A))
    (O_needs_of : Own P w K mg base CX0 "needs_of" 2 pm_needs_of (spNeeds K)) (O_next_pieces : Own P w K mg base CX0 "next_pieces" 2 pm_next_pieces (spNext K)) : GFn3 P w K mg base 6 f fd pm_cuts (spCuts K A) := by
  refine gfn3_fun F sc_cuts (fun vs H Dl Q E h => ?_) (fun cdv A' outer sh H vs Dl Q E pn Fm X hFm hX FF hr h => ?_)
  · obtain ⟨_, _, _, _, _, rfl, _⟩ := h
    rfl
  · obtain ⟨t, h1, _, h3⟩ := cuts_two T O_check_goods O_goes O_reaches_of O_needs_of O_next_pieces
    exact ⟨t E Dl, h1 f cdv A' outer sh H Dl E pn Fm X hFm hX FF hr, h3 vs H Dl Q E h⟩
def spCutsL (K : PySem.W.Frag) (A : Ad) : SpG := fun vs H Q _ => ∃ (r : Addr) (z : Int) (bs : List Int) (k : Int) (n : Nat), vs = [.ref r, .int k, .int (n : Int)] ∧ RmAt K A H r z bs ∧ OkB bs ∧ 1 ≤ z ∧ z ≤ 60 ∧ 0 ≤ k ∧ k ≤ 99 ∧ n ≤ 20 ∧ ∀ ys H', Ext H H' → ys.length = (cutsI z bs k n).length → TupsAt natsV (cutsI z bs k n) ys H' → Q ys H'
theorem ok_cutsL {f : Addr} {fd : FuncData} (F : Fun K "cuts" "cuts" s_cuts f fd) (T : Txt K mg A) (O_check_goods : Own P w K mg base (L2.CX P w) "check_goods" 4 pm_check_goods (spGoods K A)) (O_goes : Own P w K mg base (L2.CX P w) "goes" 5 pm_goes (spGoes K A)) (O_reaches_of : Own P w K mg base (L2.CX P w) "reaches_of" 5 pm_reaches_of (spReaches K A))
    (O_needs_of : Own P w K mg base CX0 "needs_of" 2 pm_needs_of (spNeeds K)) (O_next_pieces : Own P w K mg base CX0 "next_pieces" 2 pm_next_pieces (spNext K)) : GFn P w K mg base 6 f fd pm_cuts (spCutsL K A) := by
  refine gfn_fun F sc_cuts (fun vs H Q E h => ?_) (fun cdv A' outer sh H vs Q E pn hr h => ?_)
  · obtain ⟨_, _, _, _, _, rfl, _⟩ := h
    rfl
  · obtain ⟨r, z, bs, k, n, rfl, hR, g, z1, z60, k0, k99, n20, q⟩ := h
    obtain ⟨t, _, h2, h3⟩ := cuts_two (P := P) (w := w) (mg := mg) (base := base) T O_check_goods O_goes O_reaches_of O_needs_of O_next_pieces
    have hW : ∃ W : List V → Hp → Prop, W = fun ys H' => Ext H H' ∧ TupsAt natsV (cutsI z bs k n) ys H' := ⟨_, rfl⟩
    obtain ⟨W, hW⟩ := hW
    refine ⟨t E ⟨fun _ _ _ => True, fun ys x H1 => W (ys ++ [x]) H1, fun ys x H1 H2 => H1 = H2 ∧ W (ys ++ [x]) H1, []⟩, h2 f cdv A' outer sh H _ E pn (fun ys x H1 h => ⟨rfl, h⟩) hr, h3 _ H _ Q E ⟨r, z, bs, k, n, rfl, hR, g, z1, z60, k0, k99, n20, W, ?_⟩⟩
    subst hW
    refine ⟨⟨Ext.rfl', fun i v hv => nomatch hv⟩, fun ys H1 H2 h e => ⟨fun a o ha => e a o (h.1 a o ha) (.inl (by rw [ha]; exact fun z => nomatch z)), h.2.keep e⟩, fun ys x H1 H2 h => ?_, fun ys t H1 ps hp h ht => ⟨h.1, h.2.snoc hp ht⟩, fun ys H1 hl h => q ys H1 h.1 hl h.2⟩
    obtain ⟨rfl, h⟩ := h
    exact ⟨h, fun a o _ h => h, fun a h => h⟩
def spTold1 (K : PySem.W.Frag) (A : Ad) : Sp := fun vs H Q _ => ∃ (r : Addr) (z : Int) (bs : List Int) (k : Int) (n : Nat), vs = [.ref r, .int k, .int (n : Int)] ∧ RmAt K A H r z bs ∧ OkB bs ∧ 1 ≤ z ∧ z ≤ 60 ∧ 0 ≤ k ∧ k ≤ 99 ∧ n ≤ 20 ∧ (cutsI z bs k n = [] → ∀ H', Ext H H' → Q .non H') ∧ ∀ ps, (cutsI z bs k n)[0]? = some ps → ∀ t H', Ext H H' → H' t = some (.tup (natsV ps)) → Q (.ref t) H'
theorem ok_toldCut {f : Addr} {fd : FuncData} (F : Fun K "told_cut" "told_cut" s_told_cut f fd) (T : Txt K mg A) (O_cuts : OwnG3 P w K mg base "cuts" 6 pm_cuts (spCuts K A)) : FnOk P w K mg base (L2.CX P w) 8 f fd pm_told_cut (spTold1 K A) := by
  refine F.okX sc_told_cut (fun vs H Q E h => ?_) (fun cdv A' outer sh H vs Q E hr h => ?_)
  · obtain ⟨_, _, _, _, _, rfl, _⟩ := h
    rfl
  · obtain ⟨r, z, bs, k, n, rfl, hR, g, z1, z60, k0, k99, n20, q1, q2⟩ := h
    refine ⟨_, pss_cons (ps_forG (K := K) rfl O_cuts (takes_of rfl rfl rfl rfl) (passes_of rfl) (hr.mono (by decide)) rfl (pa_cons (pv 0) (pa_cons (pv 1) (pa_cons (pv 2) pa_nil))) (pgq_name (i := 3) rfl rfl sc_told_cut.nd rfl rfl) (pbq_end (pss_one (ps_ret (pv 3)))))
      (pss_one (ps_ret (pe_non))), ?_⟩
    refine ⟨_, rfl, _, rfl, _, rfl, fun ys σ' => ys = [] ∧ σ' = start nm_told_cut [.ref r, .int k, .int (n : Int)], fun _ _ _ _ => False, ⟨rfl, rfl⟩, fun cs => ⟨r, z, bs, k, n, rfl, hR, g, z1, z60, k0, k99, n20, fun ys H' => Ext H H' ∧ ys = [], ?_⟩⟩
    refine ⟨⟨Ext.rfl', rfl⟩, fun ys H1 H2 h e => ⟨fun a o ha => e a o (h.1 a o ha) (.inl (by rw [ha]; exact fun z => nomatch z)), h.2⟩, fun ys x H1 H2 h => h.elim, fun ys t H1 ps hp h ht => ?_, fun ys H1 hl h => ?_⟩
    · obtain ⟨e, rfl⟩ := h
      rintro σ' ⟨_, rfl⟩
      exact ⟨_, rfl, q2 ps hp t H1 e ht⟩
    · obtain ⟨e, rfl⟩ := h
      rintro σ' ⟨_, rfl⟩
      exact q1 (List.length_eq_zero_iff.mp hl.symm) H1 e
end
end K08

set_option Elab.async false
set_option maxRecDepth 100000
set_option maxHeartbeats 4000000
namespace K08
open PySem PySem.Spec PyProof.Rows L2
/-- what filled tells behind h along ds; whether it stops at a wrong one -/
def fillR (z : Int) (bs : List Int) : Int → List PyData → List (Int × Int) × Bool
  | _, [] => ([], false)
  | h, .int n :: ds => if 0 ≤ n ∧ n ≤ told bs (z - h) then ((h + n, told bs (z - (h + n))) :: (fillR z bs (h + n) ds).1, (fillR z bs (h + n) ds).2) else ([], true)
  | _, _ :: _ => ([], true)
def fillL (z : Int) (bs : List Int) (ds : List PyData) : List (Int × Int) := (0, told bs (z - 0)) :: (fillR z bs 0 ds).1
def pairV (x : Int × Int) : List V := [.int x.1, .int x.2]
theorem fillR_bad {z h : Int} {bs : List Int} {d : PyData} {ds : List PyData} (h0 : betD d 0 (told bs (z - h)) = false) : fillR z bs h (d :: ds) = ([], true) := by
  cases d <;> try rfl
  next n =>
    rw [bet_int] at h0
    show (if 0 ≤ n ∧ n ≤ told bs (z - h) then _ else _) = _
    rw [if_neg]
    rintro ⟨a, b⟩
    rw [decide_eq_true a, decide_eq_true b] at h0
    cases h0
theorem fillR_ok {z h n : Int} {bs : List Int} {ds : List PyData} (h0 : 0 ≤ n) (h1 : n ≤ told bs (z - h)) : fillR z bs h (.int n :: ds) = ((h + n, told bs (z - (h + n))) :: (fillR z bs (h + n) ds).1, (fillR z bs (h + n) ds).2) := if_pos ⟨h0, h1⟩
/-- the loop of filled at place i -/
def FillInv (K : PySem.W.Frag) (A : Ad) (G : Hp → Prop) (r p : Addr) (z : Int) (bs : List Int) (xs : List V) (ds : List PyData) (W : List V → Hp → Prop) (i : Nat) (ys : List V) (σ : L2.St) (H' : Hp) : Prop :=
  ∃ (h : Int) (o3 o4 : Option V), σ = [some (.ref r), some (.ref p), some (.int h), o3, o4] ∧ 0 ≤ h ∧ h ≤ z ∧ (fillR z bs h (ds.drop i)).1 = (fillL z bs ds).drop (i + 1) ∧ (fillR z bs h (ds.drop i)).2 = (fillR z bs 0 ds).2 ∧ i + 1 ≤ (fillL z bs ds).length ∧ ys.length = i + 1 ∧ W ys H' ∧ RmAt K A H' r z bs ∧ G H' ∧ DpAll K H' xs ds
theorem dpAll_at {K : PySem.W.Frag} {H : Hp} : ∀ {xs : List V} {ds : List PyData} {i : Nat} {x : V}, DpAll K H xs ds → xs[i]? = some x → ∃ d, ds[i]? = some d ∧ Dp K H x d
  | _, _, 0, x, .cons h _, e => by cases e; exact ⟨_, rfl, h⟩
  | _, _, i + 1, x, .cons _ h, e => dpAll_at (i := i) h e
section
variable {P : Program} {w : World} {K : PySem.W.Frag} {mg : Str → Option Value} {base : Heap} {A : Ad}
def ErrQ (A : Ad) (E : XK) (H : Hp) (i : Nat) : Prop := ∀ H', Ext H H' → ∀ e, H' e = none → E (.ref A.BadPiece) (some e) (upd H' e (.xd [("index", .int (i : Int))]))
def SqA (K : PySem.W.Frag) (H : Hp) (p : Addr) (xs : List V) : Prop := SqL K H p xs ∨ SqT K H p xs
def spFilled (K : PySem.W.Frag) (A : Ad) : SpG3 := fun vs H Dl Q E => ∃ (v : V) (p : Addr) (xs : List V) (ds : List PyData), vs = [v, .ref p] ∧ SqA K H p xs ∧ DpAll K H xs ds ∧ ds.length ≤ 1000 ∧
  ((v = .non ∧ ErrP A E H "room") ∨ ∃ (r : Addr) (z : Int) (bs : List Int), v = .ref r ∧ RmAt K A H r z bs ∧ OkB bs ∧ 1 ≤ z ∧ z ≤ 60 ∧ ∃ W, Feed pairV (fillL z bs ds) H Dl (fun ys H1 => (fillR z bs 0 ds).2 = false → Q ys H1) W ∧
    (∀ ys x H1 H2, Dl.kp ys x H1 H2 → (RmAt K A H1 r z bs → RmAt K A H2 r z bs) ∧ (SqL K H1 p xs → SqL K H2 p xs) ∧ (SqT K H1 p xs → SqT K H2 p xs) ∧ (DpAll K H1 xs ds → DpAll K H2 xs ds)) ∧ ((fillR z bs 0 ds).2 = true → ∀ ys H1, ys.length = (fillL z bs ds).length → W ys H1 → ErrQ A E H1 (fillR z bs 0 ds).1.length))
theorem ok_filled {f : Addr} {fd : FuncData} (F : Fun K "filled" "filled" s_filled f fd) (T : Txt K mg A) (O_check_room : Own P w K mg base (L2.CX P w) "check_room" 3 pm_check_room (spCkRoomE K A)) (O_Room_told : OwnM P w K mg base (L2.CX P w) A.Room "told" 3 pm_Room_told (spTold K A)) (O_is_between : Own P w K mg base CX0 "is_between" 2 pm_is_between (spBetween K)) (X_BadPiece : XCls P w K mg base "BadPiece" "index" A.BadPiece) : GFn3 P w K mg base 5 f fd pm_filled (spFilled K A) := by
  refine gfn3_fun F sc_filled (fun vs H Dl Q E h => ?_) (fun cdv A' outer sh H vs Dl Q E pn Fm X hFm hX FF hr h => ?_)
  · obtain ⟨_, _, _, _, rfl, _⟩ := h
    rfl
  · obtain ⟨v, p, xs, ds, rfl, hp, hds, hdl, h⟩ := h
    subst hFm hX
    refine ⟨_, gqs_cons (gq_ps FF (fun Z hZ => by (obtain ⟨s3, H3, hs3, rfl⟩ := hZ; replace hr := FmG.room hr hs3; exact ps_expr (pe_ownS O_check_room (hr.mono (by decide)) takes_gcx (pa_cons (pv 0) pa_nil))))) (gqs_cons (gq_ps FF (fun Z hZ => by (obtain ⟨s3, H3, hs3, rfl⟩ := hZ; replace hr := FmG.room hr hs3; exact ps_set (i := 2) sc_filled.nd rfl (Or.inl rfl) (pe_int)))) (gqs_cons (gq_yield FF (fun Z hZ => by (obtain ⟨s3, H3, hs3, rfl⟩ := hZ; replace hr := FmG.room hr hs3; exact pe_tup (pa_cons (pv 2) (pa_cons (pe_ownMS O_Room_told (pv 0) T.Room.cl (hr.mono (by decide)) takes_gcx (pa_cons (pv 2) pa_nil)) pa_nil))))) (gqs_cons (gq_for FF (fun Z hZ => by (obtain ⟨s3, H3, hs3, rfl⟩ := hZ; have o := owns_gcx (P := P) (w := w) (K := K) (mg := mg) (base := base) (N := nm_filled) (qual := "filled") (scope := defScope s_filled) (f := f) (cd := cdv) (A := A') (outer := outer) (s := s3) (H := H3) (E := E) (pn := pn); have e3 : (gcxOf P w K mg base nm_filled "filled" (defScope s_filled) f cdv A' outer s3 H3 E pn).env = (gcxOf P w K mg base nm_filled "filled" (defScope s_filled) f cdv A' outer sh H E pn).env := (by (show envOfC _ _ _ _ _ = envOfC _ _ _ _ _; rw [hs3])); have a3 : (gcxOf P w K mg base nm_filled "filled" (defScope s_filled) f cdv A' outer s3 H3 E pn).A = (gcxOf P w K mg base nm_filled "filled" (defScope s_filled) f cdv A' outer sh H E pn).A := (by (show Around.deeper _ _ = Around.deeper _ _; rw [hs3])); rw [e3, a3] at o; exact o)) rfl (fun Z hZ => by (obtain ⟨s3, H3, hs3, rfl⟩ := hZ; replace hr := FmG.room hr hs3; exact pi_enSqN (K := K) rfl rfl T.n_enumerate (pa_cons (pv 1) pa_nil))) (fun Z hZ => by (obtain ⟨s3, H3, hs3, rfl⟩ := hZ; replace hr := FmG.room hr hs3; exact pg_tupN (K := K) (n := 2) rfl rfl (pgs_cons (pg_name (i := 3) sc_filled.nd rfl (Or.inl rfl)) (pgs_cons (pg_name (i := 4) sc_filled.nd rfl (Or.inl rfl)) (pgs_nil))))) (gqs_cons (gq_ps FF (fun Z hZ => by (obtain ⟨s3, H3, hs3, rfl⟩ := hZ; replace hr := FmG.room hr hs3; exact ps_if (pt_not (pt_val (pe_own O_is_between (hr.mono (by decide)) pass0 (pa_cons (pv 4) (pa_cons (pe_int) (pa_cons (pe_ownMS O_Room_told (pv 0) T.Room.cl (hr.mono (by decide)) takes_gcx (pa_cons (pv 2) pa_nil)) pa_nil)))))) (pss_one (ps_raise rfl takes_gcx (pmk_X X_BadPiece (hr.mono (by decide)) (pv 3) rfl))) (pss_nil)))) (gqs_cons (gq_ps FF (fun Z hZ => by (obtain ⟨s3, H3, hs3, rfl⟩ := hZ; replace hr := FmG.room hr hs3; exact ps_aug (i := 2) sc_filled.nd rfl (Or.inl rfl) (pv 4) ip_add))) (gqs_cons (gq_yield FF (fun Z hZ => by (obtain ⟨s3, H3, hs3, rfl⟩ := hZ; replace hr := FmG.room hr hs3; exact pe_tup (pa_cons (pv 2) (pa_cons (pe_ownMS O_Room_told (pv 0) T.Room.cl (hr.mono (by decide)) takes_gcx (pa_cons (pv 2) pa_nil)) pa_nil))))) (gqs_nil))))) (gqs_nil)))), ?_⟩
    rcases h with ⟨rfl, he⟩ | ⟨r, z, bs, rfl, hR, g, z1, z60, W, fd, hkeep, herr⟩
    · exact ⟨_, rfl, .inl ⟨rfl, he⟩⟩
    · refine ⟨_, rfl, .inr ⟨r, z, bs, rfl, hR, ?_⟩⟩
      obtain ⟨dx, s, hr1, _⟩ := id hR
      have hz0 : betD (.int 0) 0 z = true := bet_in (Int.le_refl 0) (by omega)
      refine ⟨by show 0 < sizeLine; decide, _, rfl, _, rfl, r, dx, _, rfl, hr1, rfl, _, rfl, r, z, bs, .int 0, .int 0, rfl, hR, g, .int _, (fun hn => by rw [hz0] at hn; cases hn), fun h' he _ H1 e1 => ?_⟩
      cases he
      refine ⟨by show 2 ≤ sizeLine; decide, fun t ht => ?_⟩
      have eT := Ext.upd (o := .tup [V.int 0, V.int (told bs (z - 0))]) ht
      have hR1 := hR.ext e1
      refine ⟨fd.yd [] t _ (0, told bs (z - 0)) rfl (fd.ext _ _ _ fd.w0 (.of (e1.trans eT))) upd_same, fun H2 hk => ?_⟩
      refine ⟨_, rfl, p, rfl, ?_⟩
      rcases hp with hp | hp
      · refine .inl ⟨⟨xs, (hkeep _ _ _ _ hk).2.1 (hp.ext (e1.trans eT))⟩, gfor_it (walk_enum (xs := xs)) (FillInv K A (fun H => SqL K H p xs) r p z bs xs ds W) ⟨0, _, _, rfl, Int.le_refl _, by omega, rfl, rfl, Nat.succ_le_succ (Nat.zero_le _), rfl, (fd.kp _ _ _ _ hk).1, (hkeep _ _ _ _ hk).1 (hR1.ext eT), (hkeep _ _ _ _ hk).2.1 (hp.ext (e1.trans eT)), (hkeep _ _ _ _ hk).2.2.2 (dps_ext eT _ _ (dps_ext e1 _ _ hds))⟩ (fun i ys σ H' _ pv => by obtain ⟨_, _, _, _, _, _, _, _, _, _, _, _, gg, _⟩ := pv; exact gg) (fun i x ys σ H3 H4 hi pv hy => ?_) (fun ys σ H3 pv => ?_)⟩
        · obtain ⟨h, o3, o4, rfl, h0, hz, hf1, hf2, hle, hyl, hW, hR3, gg, hd3⟩ := pv
          obtain ⟨T2, x1, y1, rfl, hT2, rfl, hx1, hy1⟩ := hy
          cases hx1
          replace hy1 : xs[i]? = some y1 := hy1
          obtain ⟨d, hdi, hdy⟩ := dpAll_at hd3 hy1
          have hdrop : ds.drop i = d :: ds.drop (i + 1) := List.drop_eq_getElem_cons (List.getElem?_eq_some_iff.mp hdi).1 |>.trans (by rw [(List.getElem?_eq_some_iff.mp hdi).2])
          have hil := (List.getElem?_eq_some_iff.mp hdi).1
          rw [hdrop] at hf1 hf2
          have eP := Ext.upd (o := .tup [.int ((i : Nat) : Int), y1]) hT2
          have hR4 := hR3.ext eP
          have hd4 := dp_ext eP _ _ hdy
          obtain ⟨dx4, s4, hr4, _⟩ := id hR4
          refine ⟨T2, _, rfl, SqT.of upd_same, rfl, _, _, rfl, _, _, rfl, rfl, ?_⟩
          refine ⟨_, rfl, _, rfl, r, dx4, _, rfl, hr4, rfl, _, rfl, r, z, bs, .int h, .int h, rfl, hR4, g, .int _, (fun hn => by rw [bet_in h0 hz] at hn; cases hn), fun h' he _ H5 e5 => ?_⟩
          cases he
          refine ⟨y1, d, 0, told bs (z - h), rfl, dp_ext e5 _ _ hd4, _, rfl, ?_⟩
          have eP5 := eP.trans e5
          cases hbet : betD d 0 (told bs (z - h)) with
          | false =>
            rw [fillR_bad hbet] at hf1 hf2
            have hlen : (fillL z bs ds).length = i + 1 := by
              have := congrArg List.length hf1
              rw [List.length_drop] at this
              have h2 : 0 = (fillL z bs ds).length - (i + 1) := this
              omega
            refine iteT ⟨_, rfl, mkX_fin fun e he => ?_⟩
            have q := herr hf2.symm ys H3 (hyl.trans hlen.symm) hW _ eP5 e he
            have hi2 : (fillR z bs 0 ds).1.length = i := Nat.succ.inj hlen
            rw [hi2] at q
            exact q
          | true =>
            obtain ⟨n, rfl, n0, n1⟩ := bet_yes hbet
            obtain rfl := dp_int hdy
            rw [fillR_ok n0 n1] at hf1 hf2
            have htl := told_le (bs := bs) (f := z - h) (by omega)
            have hR5 := hR4.ext e5
            obtain ⟨dx5, s5, hr5, _⟩ := id hR5
            have h0' : 0 ≤ h + n := by omega
            have hz' : h + n ≤ z := by omega
            have hlt : i + 1 < (fillL z bs ds).length := by
              have := congrArg List.length hf1
              rw [List.length_drop] at this
              have h2 : _ + 1 = (fillL z bs ds).length - (i + 1) := this
              omega
            have hrow : (fillL z bs ds)[i + 1]? = some (h + n, told bs (z - (h + n))) := by
              have h2 : ((fillL z bs ds).drop (i + 1))[0]? = some (h + n, told bs (z - (h + n))) := by rw [← hf1]; rfl
              rw [List.getElem?_drop] at h2
              exact h2
            refine iteF ⟨_, rfl, _, rfl, _, _, rfl, rfl, by rw [hyl]; exact small_sz (by omega), _, rfl, _, rfl, r, dx5, _, rfl, hr5, rfl, _, rfl, r, z, bs, .int (h + n), .int (h + n), rfl, hR5, g, .int _, (fun hn => by rw [bet_in h0' hz'] at hn; cases hn), fun h' he _ H6 e6 => ?_⟩
            cases he
            refine ⟨by show 2 ≤ sizeLine; decide, fun t6 ht6 => ?_⟩
            have e36 := (eP5.trans e6).trans (Ext.upd (o := .tup [V.int (h + n), V.int (told bs (z - (h + n)))]) ht6)
            refine ⟨fd.yd ys t6 _ (h + n, told bs (z - (h + n))) (by rw [hyl]; exact hrow) (fd.ext _ _ _ hW (.of e36)) upd_same, fun H7 hk7 => ?_⟩
            refine ⟨h + n, _, _, rfl, h0', hz', ?_, hf2, hlt, by rw [List.length_append, hyl]; rfl, (fd.kp _ _ _ _ hk7).1, (hkeep _ _ _ _ hk7).1 (hR3.ext e36), (hkeep _ _ _ _ hk7).2.1 (gg.ext e36), (hkeep _ _ _ _ hk7).2.2.2 (dps_ext e36 _ _ hd3)⟩
            have h8 := congrArg List.tail hf1
            rw [List.tail_drop] at h8
            exact h8
        · obtain ⟨h, o3, o4, rfl, h0, hz, hf1, hf2, hle, hyl, hW, hR3, gg, hd3⟩ := pv
          have hxl := dps_len hds
          rw [List.drop_eq_nil_of_le (by omega)] at hf1 hf2
          refine fd.en ys H3 ?_ hW hf2.symm
          have := congrArg List.length hf1
          rw [List.length_drop] at this
          have h2 : 0 = (fillL z bs ds).length - (xs.length + 1) := this
          omega
      · refine .inr ⟨⟨xs, (hkeep _ _ _ _ hk).2.2.1 (hp.ext (e1.trans eT))⟩, gfor_it (walk_enT (xs := xs)) (FillInv K A (fun H => SqT K H p xs) r p z bs xs ds W) ⟨0, _, _, rfl, Int.le_refl _, by omega, rfl, rfl, Nat.succ_le_succ (Nat.zero_le _), rfl, (fd.kp _ _ _ _ hk).1, (hkeep _ _ _ _ hk).1 (hR1.ext eT), (hkeep _ _ _ _ hk).2.2.1 (hp.ext (e1.trans eT)), (hkeep _ _ _ _ hk).2.2.2 (dps_ext eT _ _ (dps_ext e1 _ _ hds))⟩ (fun i ys σ H' _ pv => by obtain ⟨_, _, _, _, _, _, _, _, _, _, _, _, gg, _⟩ := pv; exact gg) (fun i x ys σ H3 H4 hi pv hy => ?_) (fun ys σ H3 pv => ?_)⟩
        · obtain ⟨h, o3, o4, rfl, h0, hz, hf1, hf2, hle, hyl, hW, hR3, gg, hd3⟩ := pv
          obtain ⟨T2, x1, y1, rfl, hT2, rfl, hx1, hy1⟩ := hy
          cases hx1
          replace hy1 : xs[i]? = some y1 := hy1
          obtain ⟨d, hdi, hdy⟩ := dpAll_at hd3 hy1
          have hdrop : ds.drop i = d :: ds.drop (i + 1) := List.drop_eq_getElem_cons (List.getElem?_eq_some_iff.mp hdi).1 |>.trans (by rw [(List.getElem?_eq_some_iff.mp hdi).2])
          have hil := (List.getElem?_eq_some_iff.mp hdi).1
          rw [hdrop] at hf1 hf2
          have eP := Ext.upd (o := .tup [.int ((i : Nat) : Int), y1]) hT2
          have hR4 := hR3.ext eP
          have hd4 := dp_ext eP _ _ hdy
          obtain ⟨dx4, s4, hr4, _⟩ := id hR4
          refine ⟨T2, _, rfl, SqT.of upd_same, rfl, _, _, rfl, _, _, rfl, rfl, ?_⟩
          refine ⟨_, rfl, _, rfl, r, dx4, _, rfl, hr4, rfl, _, rfl, r, z, bs, .int h, .int h, rfl, hR4, g, .int _, (fun hn => by rw [bet_in h0 hz] at hn; cases hn), fun h' he _ H5 e5 => ?_⟩
          cases he
          refine ⟨y1, d, 0, told bs (z - h), rfl, dp_ext e5 _ _ hd4, _, rfl, ?_⟩
          have eP5 := eP.trans e5
          cases hbet : betD d 0 (told bs (z - h)) with
          | false =>
            rw [fillR_bad hbet] at hf1 hf2
            have hlen : (fillL z bs ds).length = i + 1 := by
              have := congrArg List.length hf1
              rw [List.length_drop] at this
              have h2 : 0 = (fillL z bs ds).length - (i + 1) := this
              omega
            refine iteT ⟨_, rfl, mkX_fin fun e he => ?_⟩
            have q := herr hf2.symm ys H3 (hyl.trans hlen.symm) hW _ eP5 e he
            have hi2 : (fillR z bs 0 ds).1.length = i := Nat.succ.inj hlen
            rw [hi2] at q
            exact q
          | true =>
            obtain ⟨n, rfl, n0, n1⟩ := bet_yes hbet
            obtain rfl := dp_int hdy
            rw [fillR_ok n0 n1] at hf1 hf2
            have htl := told_le (bs := bs) (f := z - h) (by omega)
            have hR5 := hR4.ext e5
            obtain ⟨dx5, s5, hr5, _⟩ := id hR5
            have h0' : 0 ≤ h + n := by omega
            have hz' : h + n ≤ z := by omega
            have hlt : i + 1 < (fillL z bs ds).length := by
              have := congrArg List.length hf1
              rw [List.length_drop] at this
              have h2 : _ + 1 = (fillL z bs ds).length - (i + 1) := this
              omega
            have hrow : (fillL z bs ds)[i + 1]? = some (h + n, told bs (z - (h + n))) := by
              have h2 : ((fillL z bs ds).drop (i + 1))[0]? = some (h + n, told bs (z - (h + n))) := by rw [← hf1]; rfl
              rw [List.getElem?_drop] at h2
              exact h2
            refine iteF ⟨_, rfl, _, rfl, _, _, rfl, rfl, by rw [hyl]; exact small_sz (by omega), _, rfl, _, rfl, r, dx5, _, rfl, hr5, rfl, _, rfl, r, z, bs, .int (h + n), .int (h + n), rfl, hR5, g, .int _, (fun hn => by rw [bet_in h0' hz'] at hn; cases hn), fun h' he _ H6 e6 => ?_⟩
            cases he
            refine ⟨by show 2 ≤ sizeLine; decide, fun t6 ht6 => ?_⟩
            have e36 := (eP5.trans e6).trans (Ext.upd (o := .tup [V.int (h + n), V.int (told bs (z - (h + n)))]) ht6)
            refine ⟨fd.yd ys t6 _ (h + n, told bs (z - (h + n))) (by rw [hyl]; exact hrow) (fd.ext _ _ _ hW (.of e36)) upd_same, fun H7 hk7 => ?_⟩
            refine ⟨h + n, _, _, rfl, h0', hz', ?_, hf2, hlt, by rw [List.length_append, hyl]; rfl, (fd.kp _ _ _ _ hk7).1, (hkeep _ _ _ _ hk7).1 (hR3.ext e36), (hkeep _ _ _ _ hk7).2.2.1 (gg.ext e36), (hkeep _ _ _ _ hk7).2.2.2 (dps_ext e36 _ _ hd3)⟩
            have h8 := congrArg List.tail hf1
            rw [List.tail_drop] at h8
            exact h8
        · obtain ⟨h, o3, o4, rfl, h0, hz, hf1, hf2, hle, hyl, hW, hR3, gg, hd3⟩ := pv
          have hxl := dps_len hds
          rw [List.drop_eq_nil_of_le (by omega)] at hf1 hf2
          refine fd.en ys H3 ?_ hW hf2.symm
          have := congrArg List.length hf1
          rw [List.length_drop] at this
          have h2 : 0 = (fillL z bs ds).length - (xs.length + 1) := this
          omega
end
end K08

set_option Elab.async false
set_option maxRecDepth 100000
set_option maxHeartbeats 4000000
namespace K08
open PySem PySem.Spec PyProof.Rows L2
theorem last_at {α : Type} {xs : List α} {x : α} (h : xs.getLast? = some x) : atI xs (-1) = some x := by
  obtain ⟨ys, rfl⟩ := List.getLast?_eq_some_iff.mp h
  exact atI_last _ _
def desc (c : Nat) : List Nat := ((List.range c).map (· + 1)).reverse
theorem desc_succ (c : Nat) : desc (c + 1) = (c + 1) :: desc c := by
  unfold desc
  rw [List.range_succ, List.map_append, List.reverse_append]; rfl
theorem desc_len (c : Nat) : (desc c).length = c := by unfold desc; simp
theorem desc_at : ∀ {c i : Nat}, i < c → (desc c)[i]? = some (c - i)
  | c + 1, 0, _ => by rw [desc_succ]; rfl
  | c + 1, i + 1, h => by
    rw [desc_succ, List.getElem?_cons_succ, desc_at (by omega)]
    congr 1; omega
theorem desc_mem {c p : Nat} : p ∈ desc c ↔ 1 ≤ p ∧ p ≤ c := by
  unfold desc
  rw [List.mem_reverse, List.mem_map]
  constructor
  · rintro ⟨x, hx, rfl⟩
    have := List.mem_range.mp hx
    omega
  · rintro ⟨a, b⟩
    exact ⟨p - 1, List.mem_range.mpr (by omega), by omega⟩
/-! the first cut in at most l pieces, the greatest piece first -/
def cutG (r : Nat → Nat) (n : Nat) : Nat → Nat → Option (List Nat)
  | 0, h => if h = n then some [] else none
  | l + 1, h => if h = n then some [] else (desc (min (r h) (n - h))).findSome? fun p => (cutG r n l (h + p)).map (p :: ·)
theorem cutG_end {r : Nat → Nat} {n l : Nat} : cutG r n l n = some [] := by
  cases l <;> exact if_pos rfl
theorem cutG_row {r : Nat → Nat} {n : Nat} : ∀ {l h : Nat} {ps : List Nat}, cutG r n l h = some ps → IsRow r n h ps ∧ ps.length ≤ l
  | 0, h, ps, e => by
    unfold cutG at e
    by_cases hn : h = n
    · rw [if_pos hn] at e
      cases e
      exact ⟨hn, Nat.le_refl _⟩
    · rw [if_neg hn] at e
      cases e
  | l + 1, h, ps, e => by
    unfold cutG at e
    by_cases hn : h = n
    · rw [if_pos hn] at e
      cases e
      exact ⟨hn, Nat.zero_le _⟩
    · rw [if_neg hn] at e
      obtain ⟨p, hp, hF⟩ := List.exists_of_findSome?_eq_some e
      obtain ⟨qs, hq, rfl⟩ := Option.map_eq_some_iff.mp hF
      obtain ⟨h1, h2⟩ := cutG_row hq
      obtain ⟨p1, p2⟩ := desc_mem.mp hp
      exact ⟨⟨p1, by omega, h1⟩, Nat.succ_le_succ h2⟩
theorem find_flat {α β : Type} {F : α → Option β} {G : α → List β} {keep : α → Bool} : ∀ {l : List α}, (∀ x ∈ l, keep x = false → F x = none) → (∀ x ∈ l, keep x = true → F x = (G x).head? ∧ G x ≠ []) → l.findSome? F = ((l.filter keep).flatMap G).head?
  | [], _, _ => rfl
  | x :: l, h1, h2 => by
    have ih := find_flat (F := F) (G := G) (keep := keep) (l := l) (fun y hy => h1 y (List.mem_cons_of_mem _ hy)) fun y hy => h2 y (List.mem_cons_of_mem _ hy)
    rw [List.findSome?_cons, List.filter_cons]
    cases hk : keep x with
    | false =>
      rw [h1 x List.mem_cons_self hk, if_neg (by decide)]
      exact ih
    | true =>
      obtain ⟨a, b⟩ := h2 x List.mem_cons_self hk
      rw [if_pos rfl, List.flatMap_cons, a]
      cases hg : G x with
      | nil => exact absurd hg b
      | cons y ys => rfl
theorem cutG_none {r : Nat → Nat} {n h l : Nat} (hh : h ≤ n) (e : need r n h = none) : cutG r n l h = none := by
  cases hc : cutG r n l h with
  | none => rfl
  | some ps => exact absurd (cutG_row hc).1 (need_no hh e ps)
theorem cutG_less {r : Nat → Nat} {n h l m : Nat} (hh : h ≤ n) (e : need r n h = some m) (hl : l < m) : cutG r n l h = none := by
  cases hc : cutG r n l h with
  | none => rfl
  | some ps =>
    obtain ⟨h1, h2⟩ := cutG_row hc
    have := (need_some hh e).2 ps h1
    omega
theorem cutG_need {r : Nat → Nat} {n : Nat} : ∀ {m h : Nat}, h ≤ n → need r n h = some m → cutG r n m h = (cutsF r n m h).head?
  | 0, h, hh, e => by
    have hn : h = n := by
      by_cases hlt : h < n
      · have := ((need_step hlt).mp e).1
        omega
      · omega
    subst hn
    rw [cutG_end]
    rfl
  | m + 1, h, hh, e => by
    have hlt : h < n := by
      by_cases hlt : h < n
      · exact hlt
      · obtain rfl : h = n := by omega
        rw [need_n] at e
        cases e
    have hmin := (need_some hh e).2
    unfold cutG cutsF
    rw [if_neg (by omega)]
    have hrev : (nextP r n h).reverse = (desc (min (r h) (n - h))).filter fun p => decide ((need r n (h + p)).map (· + 1) = need r n h ∧ (need r n (h + p)).isSome) := by
      unfold nextP desc
      rw [List.filter_reverse]
    rw [hrev]
    refine find_flat (fun p hp hk => ?_) fun p hp hk => ?_
    · obtain ⟨p1, p2⟩ := desc_mem.mp hp
      have hpn : h + p ≤ n := by omega
      rw [Option.map_eq_none_iff]
      cases hc : cutG r n m (h + p) with
      | none => rfl
      | some ps =>
        obtain ⟨h1, h2⟩ := cutG_row hc
        exfalso
        cases hx : need r n (h + p) with
        | none => exact need_no hpn hx ps h1
        | some x =>
          obtain ⟨⟨qs, hq, hql⟩, hqm⟩ := need_some hpn hx
          have a1 := hqm ps h1
          have a2 := hmin (p :: qs) ⟨p1, by omega, hq⟩
          rw [List.length_cons] at a2
          have : x = m := by omega
          subst this
          rw [hx, e] at hk
          exact absurd (of_decide_eq_false hk) (fun z => z ⟨rfl, rfl⟩)
    · obtain ⟨p1, p2⟩ := desc_mem.mp hp
      have hpn : h + p ≤ n := by omega
      obtain ⟨k1, k2⟩ := of_decide_eq_true hk
      have hx : need r n (h + p) = some m := by
        cases hx : need r n (h + p) with
        | none => rw [hx] at k2; cases k2
        | some x =>
          rw [hx, e] at k1
          have : x + 1 = m + 1 := Option.some.inj k1
          congr 1
          omega
      refine ⟨?_, fun z => cutsF_ne hpn hx (List.map_eq_nil_iff.mp z)⟩
      rw [cutG_need hpn hx, List.head?_map]
/-- the cuts of greater reach need no more pieces -/
theorem isRow_mono {r r' : Nat → Nat} {n : Nat} (hr : ∀ h, r h ≤ r' h) : ∀ {ps : List Nat} {h : Nat}, IsRow r n h ps → IsRow r' n h ps
  | [], _, h => h
  | p :: ps, x, ⟨a, b, c⟩ => ⟨a, Nat.le_trans b (hr x), isRow_mono hr c⟩
theorem cutsI_mono {z z' : Int} {bs bs' : List Int} {k k' : Int} {n : Nat} {ps : List Nat} (hr : ∀ h, rN z bs k h ≤ rN z' bs' k' h) (h0 : (cutsI z bs k n)[0]? = some ps) : ∃ qs, (cutsI z' bs' k' n)[0]? = some qs ∧ qs.length ≤ ps.length := by
  unfold cutsI at h0 ⊢
  by_cases hn : n = 0
  · rw [if_pos hn] at h0 ⊢
    exact ⟨_, rfl, by cases h0; exact Nat.le_refl _⟩
  · rw [if_neg hn] at h0 ⊢
    cases hm : need (rN z bs k) n 0 with
    | none => rw [hm] at h0; cases h0
    | some m =>
      rw [hm] at h0
      obtain ⟨p1, p2⟩ := (mem_cutsF m 0 (Nat.zero_le _) hm ps).mp (List.mem_of_getElem? h0)
      have hrow := isRow_mono hr p1
      cases hm' : need (rN z' bs' k') n 0 with
      | none => exact absurd hrow (need_no (Nat.zero_le _) hm' ps)
      | some m' =>
        have hle := (need_some (Nat.zero_le _) hm').2 ps hrow
        have hne := cutsF_ne (Nat.zero_le _) hm'
        show ∃ qs, (cutsF (rN z' bs' k') n m' 0)[0]? = some qs ∧ _
        cases hc : cutsF (rN z' bs' k') n m' 0 with
        | nil => exact absurd hc hne
        | cons q l =>
          have hq : q ∈ cutsF (rN z' bs' k') n m' 0 := by rw [hc]; exact List.mem_cons_self
          have := ((mem_cutsF m' 0 (Nat.zero_le _) hm' q).mp hq).2
          exact ⟨q, rfl, by omega⟩
theorem rN_mono {z z' : Int} {bs bs' : List Int} {k k' : Int} (g' : OkB bs') (hz : z ≤ z') (hk : k ≤ k') (hs : ∀ b ∈ bs, b ∈ bs') (h : Nat) : rN z bs k h ≤ rN z' bs' k' h := by
  have h1 := told_mono (bs := bs) g' hs (f := z - (h : Int)) (f' := z' - (h : Int)) (by omega)
  unfold rN rch
  omega
section
variable {P : Program} {w : World} {K : PySem.W.Frag} {mg : Str → Option Value} {base : Heap} {A : Ad}
/-- steps that rise, not many -/
def Up (bs : List Int) (i : Nat) : Prop := bs.length = i + 1 ∧ bs.Pairwise (· < ·) ∧ (∀ x ∈ bs, 1 ≤ x ∧ x ≤ 4 + 5 * (i : Int)) ∧ ∃ y, bs.getLast? = some y ∧ ∀ x ∈ bs, x ≤ y
theorem Up.snoc {bs : List Int} {i : Nat} {y n : Int} (h : Up bs i) (hy : bs.getLast? = some y) (n0 : 0 ≤ n) (n5 : n < 5) : Up (bs ++ [y + 1 + n]) (i + 1) := by
  obtain ⟨h1, h2, h3, y', hy', h4⟩ := h
  rw [hy] at hy'
  cases hy'
  have hym := h3 y (List.mem_of_getLast? hy)
  refine ⟨by rw [List.length_append, h1]; rfl, List.pairwise_append.mpr ⟨h2, List.pairwise_singleton _ _, fun a ha b hb => ?_⟩, fun x hx => ?_, y + 1 + n, List.getLast?_concat, fun x hx => ?_⟩
  · rw [List.mem_singleton.mp hb]
    have := h4 a ha
    omega
  · rcases List.mem_append.mp hx with hx | hx
    · have := h3 x hx
      omega
    · rw [List.mem_singleton.mp hx]
      omega
  · rcases List.mem_append.mp hx with hx | hx
    · have := h4 x hx
      omega
    · rw [List.mem_singleton.mp hx]
      exact Int.le_refl _
theorem Up.ok {bs : List Int} {i : Nat} (h : Up bs i) (hi : i ≤ 3) : OkB bs := ⟨by rw [h.1]; omega, by rw [h.1]; omega, fun b hb => by have := h.2.2.1 b hb; omega, h.2.1⟩
def spRise (K : PySem.W.Frag) : Sp := fun vs H Q _ => ∃ (a b : Addr) (ns : List Int), vs = [.ref a, .ref b, .int 3, .int 4] ∧ SqL K H a (ns.map V.int) ∧ (a = b → ∀ H', SqL K H' a (ns.map V.int)) ∧ StB H b ∧
  ∀ D bs i H', H D = none → H' D = some (.lst (bs.map V.int)) → D ≠ b → Up bs i → i ≤ 2 → StB H' b → ExtB b H H' → Q (.ref D) H'
theorem ok_rising {f : Addr} {fd : FuncData} (F : Fun K "_law_rising" "_law_rising" s__law_rising f fd) (T : Txt K mg A) (O__law_draw : Own P w K mg base CX0 "_law_draw" 1 pm__law_draw (spDrawB K)) : FnOk P w K mg base CX0 2 f fd pm__law_rising (spRise K) := by
  refine F.ok sc__law_rising (fun vs H Q E h => ?_) (fun cdv A' outer sh H vs Q E hr h => ?_)
  · obtain ⟨_, _, _, rfl, _⟩ := h
    rfl
  · obtain ⟨a, b, ns, rfl, hS, nab, st0, k⟩ := h
    refine ⟨_, pss_cons (ps_set (i := 4) sc__law_rising.nd rfl (Or.inl rfl) (pe_lst (pa_cons (pe_op op_add (pe_int) (pe_own O__law_draw (hr.mono (by decide)) pass0 (pa_cons (pv 0) (pa_cons (pv 1) (pa_cons (pv 3) pa_nil))))) pa_nil)))
      (pss_cons (ps_for PassesOwn.never rfl (pi_range1 rfl T.n_range (pa_cons (pe_own O__law_draw (hr.mono (by decide)) pass0 (pa_cons (pv 0) (pa_cons (pv 1) (pa_cons (pv 2) pa_nil)))) pa_nil)) (pg_name (i := 5) sc__law_rising.nd rfl (Or.inl rfl)) (pss_one (ps_expr (pe_bm PySem.F.plainAttrs_list PySem.F.slot_list_append PySem.F.type_list_append mt_append (pv 4) (pa_cons (pe_op op_add (pe_op op_add (pe_ix ix_list (pv 4) (pe_un un_neg (pe_int)) (fun _ _ => rfl)) (pe_int)) (pe_own O__law_draw (hr.mono (by decide)) pass0 (pa_cons (pv 0) (pa_cons (pv 1) (pa_cons (pe_int) pa_nil))))) pa_nil)))))
      (pss_one (ps_ret (pv 4)))), ?_⟩
    refine ⟨_, rfl, _, rfl, _, rfl, a, b, ns, 4, rfl, hS, nab, st0, by omega, by omega, fun n H1 n0 n4 st1 x1 => ⟨_, _, rfl, rfl, by show 1 ≤ sizeLine; decide, fun D hD => ?_⟩⟩
    have e1 := Ext.upd (o := .lst [V.int (1 + n)]) hD
    have nDb := st1.new hD
    have st1' := st1.ext e1
    have hD1 : upd H1 D (.lst [V.int (1 + n)]) D = some (.lst ([1 + n].map V.int)) := upd_same
    have x1' := x1.trans (Ext.b (b := b) e1)
    have hD0 : H D = none := x1.none nDb hD
    generalize upd H1 D (.lst [V.int (1 + n)]) = H1' at e1 st1' hD1 x1'
    have hS1 := sqL_b hS nab x1'
    refine ⟨_, rfl, _, rfl, _, rfl, a, b, ns, 3, rfl, hS1, nab, st1', by omega, by omega, fun m H2 m0 m3 st2 x2 => ⟨m, rfl, by omega, by omega, ?_⟩⟩
    refine for_range (n := m.toNat) (fun i σ' H' => ∃ o5 bs, σ' = [some (.ref a), some (.ref b), some (.int 3), some (.int 4), some (.ref D), o5] ∧ H' D = some (.lst (bs.map V.int)) ∧ Up bs i ∧ StB H' b ∧ ExtB b H H') ⟨_, [1 + n], rfl, x2 D _ nDb hD1, ⟨rfl, List.pairwise_singleton _ _, fun x hx => by rw [List.mem_singleton.mp hx]; omega, 1 + n, rfl, fun x hx => by rw [List.mem_singleton.mp hx]; exact Int.le_refl _⟩, st2, x1'.trans x2⟩ (fun i σ' H3 hi pv => ?_) (fun σ' H3 pv => ?_)
    · obtain ⟨o5, bs, rfl, hD3, hu, st3, x3⟩ := pv
      obtain ⟨y, hy, _⟩ := id hu.2.2.2
      have hS3 := sqL_b hS nab x3
      refine ⟨_, rfl, .inl ⟨rfl, _, SqL.of hD3⟩, _, rfl, 1, rfl, D, bs.map V.int, -1, .int y, rfl, rfl, SqL.of hD3, last_at (by rw [List.getLast?_map, hy]; rfl), _, _, rfl, rfl, _, rfl, _, rfl, a, b, ns, 5, rfl, hS3, nab, st3, by omega, by omega, fun q H4 q0 q5 st4 x4 => ?_⟩
      have hD4 := x4 D _ nDb hD3
      refine ⟨_, _, rfl, rfl, D, _, _, rfl, rfl, hD4, ?_, ?_⟩
      · rw [List.length_map, hu.1]
        exact Nat.lt_of_le_of_lt (show i + 1 ≤ 10 by omega) (by decide)
      · exact ⟨_, bs ++ [y + 1 + q], rfl, by rw [upd_same, List.map_append]; rfl, hu.snoc hy q0 q5, st4.upd nDb, (x3.trans x4).mut hD0⟩
    · obtain ⟨o5, bs, rfl, hD3, hu, st3, x3⟩ := pv
      exact ⟨_, rfl, k D bs m.toNat H3 hD0 hD3 nDb hu (by omega) st3 x3⟩
end
end K08

set_option Elab.async false
set_option maxRecDepth 100000
set_option maxHeartbeats 4000000
namespace K08
open PySem PySem.Spec PyProof.Rows L2
theorem find_at {α β : Type} {F : α → Option β} : ∀ {l : List α} {j : Nat} {x : α}, l[j]? = some x → (∀ i y, i < j → l[i]? = some y → F y = none) → (F x).isSome = true → l.findSome? F = F x
  | [], _, _, h, _, _ => nomatch h
  | a :: l, 0, x, h, _, hs => by
    cases h
    rw [List.findSome?_cons]
    cases hf : F a with
    | none => rw [hf] at hs; cases hs
    | some y => rfl
  | a :: l, j + 1, x, h, hn, hs => by
    rw [List.findSome?_cons, hn 0 a (Nat.succ_pos j) rfl]
    exact find_at (l := l) (j := j) h (fun i y hi hy => hn (i + 1) y (Nat.succ_lt_succ hi) hy) hs
theorem shp_two : ∀ {ds : List PyData}, (∀ d ∈ ds, d.canLay0 = true ∧ d.depth ≤ 1) → PyData.canLayAll0 ds = true ∧ PyData.depthAll ds ≤ 1
  | [], _ => ⟨rfl, by decide⟩
  | d :: ds, h => by
    obtain ⟨a, b⟩ := shp_two (ds := ds) fun e he => h e (List.mem_cons_of_mem _ he)
    obtain ⟨c, e⟩ := h d List.mem_cons_self
    refine ⟨?_, ?_⟩
    · show (d.canLay0 && PyData.canLayAll0 ds) = true
      rw [a, c]; rfl
    · show max d.depth (PyData.depthAll ds) ≤ 1
      omega
theorem shp_lst2 {ds : List PyData} (h : ∀ d ∈ ds, d.canLay0 = true ∧ d.depth ≤ 1) : SeqAt.shaped (.list ds) = true := by
  obtain ⟨a, b⟩ := shp_two h
  show (PyData.canLayAll0 ds && decide (PyData.depthAll ds + 1 ≤ 64)) = true
  rw [a, decide_eq_true (by omega)]; rfl
theorem shp_self {d : PyData} (h : SeqAt.shaped d = true) : PyData.eqv d d = true := by
  refine PySem.SeqAt.eqv_refl _ ?_
  unfold SeqAt.shaped at h
  rw [Bool.and_eq_true] at h
  exact h.1
theorem natsV_fl (ps : List Nat) : ∀ v ∈ natsV ps, Fl v := fun v hv => by
  obtain ⟨p, _, rfl⟩ := List.mem_map.mp hv
  trivial
theorem natsV_len (ps : List Nat) : (natsV ps).length = ps.length := List.length_map _
/-- what is found: nothing, or one cut -/
def Res (H : Hp) (ys : List V) : Option (List Nat) → Prop
  | none => ys = []
  | some ps => ∃ t, ys = [.ref t] ∧ H t = some (.tup (natsV ps))
theorem Res.k {H H' : Hp} {ys : List V} {o : Option (List Nat)} (h : Res H ys o) (e : Ext H H') : Res H' ys o := by
  cases o with
  | none => exact h
  | some ps =>
    obtain ⟨t, a, b⟩ := h
    exact ⟨t, a, e _ _ b⟩
section
variable {P : Program} {w : World} {K : PySem.W.Frag} {mg : Str → Option Value} {base : Heap} {A : Ad}
theorem Res.ne {H : Hp} {L N : Addr} {ys : List V} {o : Option (List Nat)} {Q : VK} (h : Res H ys o) (hL : H L = some (.lst ys)) (hN : H N = some (.lst [])) (q : Q (.bl o.isSome) H) : rNeD K (.ref L) (.ref N) H Q := by
  cases o with
  | none =>
    obtain rfl : ys = [] := h
    exact ⟨.list [], .list [], .lst (SqL.of hL) .nil, .lst (SqL.of hN) .nil, rfl, rfl, q⟩
  | some ps =>
    obtain ⟨t, rfl, ht⟩ := h
    refine ⟨.list [.tuple ((natsV ps).map pd)], .list [], .lst (SqL.of hL) (.cons (.tup (SqT.of ht) (dp_all (natsV_fl ps))) .nil), .lst (SqL.of hN) .nil, shp_lst2 fun d hd => ?_, rfl, q⟩
    obtain rfl := List.mem_singleton.mp hd
    obtain ⟨a, b⟩ := lay_all (natsV_fl ps)
    exact ⟨a, by show PyData.depthAll _ + 1 ≤ 1; rw [b]; exact Nat.le_refl _⟩
def Pts (H : Hp) (t p : Addr) (z : Int) (bs : List Int) (k : Int) : Prop := H t = some (.tup [.int z, .ref p, .int k]) ∧ H p = some (.lst (bs.map V.int))
theorem Pts.ext {H H' : Hp} {t p : Addr} {z k : Int} {bs : List Int} (h : Pts H t p z bs k) (e : Ext H H') : Pts H' t p z bs k := ⟨e _ _ h.1, e _ _ h.2⟩
def spC (K : PySem.W.Frag) (l : Nat) : Sp := fun vs H Q _ => ∃ (t p : Addr) (z : Int) (bs : List Int) (k : Int) (n h : Nat), vs = [.ref t, .int (h : Int), .int (n : Int), .int (l : Int)] ∧ Pts H t p z bs k ∧ OkB bs ∧ 0 ≤ k ∧ k ≤ 99 ∧ 1 ≤ z ∧ z ≤ 60 ∧ h ≤ n ∧ n ≤ 20 ∧
  ∀ L ys H', Ext H H' → H L = none → H' L = some (.lst ys) → Res H' ys (cutG (rN z bs k) n l h) → Q (.ref L) H'
def spP (K : PySem.W.Frag) : Nat → Sp
  | 0 => fun _ _ _ _ => False
  | l + 1 => spC K l
theorem lcut_ok {f : Addr} {fd : FuncData} {l : Nat} (F : Fun K "_law_cuts" "_law_cuts" s__law_cuts f fd) (T : Txt K mg A) (O__law_told : Own P w K mg base CX0 "_law_told" 1 pm__law_told (spLTold K)) (O__law_cuts : Own P w K mg base CX0 "_law_cuts" (l + 2) pm__law_cuts (spP K l)) : FnOk P w K mg base CX0 (l + 3) f fd pm__law_cuts (spC K l) := by
  refine F.ok sc__law_cuts (fun vs H Q E h => ?_) (fun cdv A' outer sh H vs Q E hr h => ?_)
  · obtain ⟨_, _, _, _, _, _, _, rfl, _⟩ := h
    rfl
  · obtain ⟨t, p, z, bs, k, n, h, rfl, hP, g, k0, k99, z1, z60, hh, n20, q⟩ := h
    refine ⟨_, pss_cons (ps_asg (pv 0) (pg_tup rfl (pgs_cons (pg_name (i := 4) sc__law_cuts.nd rfl (Or.inl rfl)) (pgs_cons (pg_name (i := 5) sc__law_cuts.nd rfl (Or.inl rfl)) (pgs_cons (pg_name (i := 6) sc__law_cuts.nd rfl (Or.inl rfl)) (pgs_nil))))))
      (pss_cons (ps_if (pt_cmpR op_eq (pv 1) (pv 2) (nomark _)) (pss_one (ps_ret (pe_lst (pa_cons (pe_tup (pa_nil)) pa_nil)))) (pss_nil))
      (pss_cons (ps_if (pt_cmpR op_eq (pv 3) (pe_int) (nomark _)) (pss_one (ps_ret (pe_lst (pa_nil)))) (pss_nil))
      (pss_cons (ps_set (i := 7) sc__law_cuts.nd rfl (Or.inl rfl) (pe_lst (pa_nil)))
      (pss_cons (ps_set (i := 8) sc__law_cuts.nd rfl (Or.inl rfl) (pe_callB (call_min2 rfl) (by rfl) T.n_min (by decide +kernel) (pa_cons (pe_callTy call_int1 (by rfl) T.n_int (by decide +kernel) (pa_cons (pv 6) pa_nil)) (pa_cons (pe_callTy call_int1 (by rfl) T.n_int (by decide +kernel) (pa_cons (pe_own O__law_told (hr.mono (by omega)) pass0 (pa_cons (pv 5) (pa_cons (pe_op op_sub (pv 4) (pv 1)) pa_nil))) pa_nil)) pa_nil))))
      (pss_cons (ps_for PassesOwn.never rfl (pi_range3 rfl T.n_range (pa_cons (pe_callB (call_min2 rfl) (by rfl) T.n_min (by decide +kernel) (pa_cons (pe_callTy call_int1 (by rfl) T.n_int (by decide +kernel) (pa_cons (pv 8) pa_nil)) (pa_cons (pe_callTy call_int1 (by rfl) T.n_int (by decide +kernel) (pa_cons (pe_op op_sub (pv 2) (pv 1)) pa_nil)) pa_nil))) (pa_cons (pe_int) (pa_cons (pe_un un_neg (pe_int)) pa_nil)))) (pg_name (i := 9) sc__law_cuts.nd rfl (Or.inl rfl)) (pss_cons (ps_set (i := 10) sc__law_cuts.nd rfl (Or.inl rfl) (pe_own O__law_cuts (hr.mono (by omega)) pass0 (pa_cons (pv 0) (pa_cons (pe_op op_add (pv 1) (pv 9)) (pa_cons (pv 2) (pa_cons (pe_op op_sub (pv 3) (pe_int)) pa_nil))))))
      (pss_one (ps_if (pt_cmpR (op_neD hr.units) (pv 10) (pe_lst (pa_nil)) (nomark _)) (pss_one (ps_ret (pe_lst (pa_cons (pe_op op_catE (pe_tup (pa_cons (pv 9) pa_nil)) (pe_ix ix_list (pv 10) (pe_int) (fun _ _ => rfl))) pa_nil)))) (pss_nil)))))
      (pss_one (ps_ret (pv 7)))))))), ?_⟩
    refine ⟨_, rfl, t, _, rfl, SqT.of hP.1, rfl, _, _, rfl, _, _, rfl, _, _, rfl, rfl, ?_⟩
    refine ⟨_, rfl, _, rfl, rfl, _, rfl, ?_⟩
    rw [dvi]
    by_cases hn : (h : Int) = (n : Int)
    · rw [decide_eq_true hn]
      obtain rfl : h = n := by omega
      refine iteT ⟨by show 0 ≤ sizeLine; decide, fun t1 h1 => ⟨by show 1 ≤ sizeLine; decide, fun L hL => ?_⟩⟩
      have e1 := Ext.upd (o := .tup []) h1
      have e2 := Ext.upd (o := .lst [V.ref t1]) hL
      exact q L [.ref t1] _ (e1.trans e2) (ext_none e1 hL) upd_same (by rw [cutG_end]; exact ⟨t1, rfl, e2 _ _ upd_same⟩)
    rw [decide_eq_false hn]
    have hne : h ≠ n := by omega
    refine iteF ⟨_, rfl, rfl, _, rfl, ?_⟩
    rw [dvi]
    cases l with
    | zero =>
      rw [decide_eq_true (show ((0 : Nat) : Int) = 0 from rfl)]
      exact iteT ⟨by show 0 ≤ sizeLine; decide, fun L hL => q L [] _ (Ext.upd hL) hL upd_same (by rw [show cutG (rN z bs k) n 0 h = none from if_neg hne]; rfl)⟩
    | succ l =>
      rw [decide_eq_false (show ¬ ((l + 1 : Nat) : Int) = 0 by omega)]
      refine iteF ⟨by show 0 ≤ sizeLine; decide, fun Lf hLf => ?_⟩
      have e0 := Ext.upd (o := .lst []) hLf
      have hLf1 : upd H Lf (.lst []) Lf = some (.lst []) := upd_same
      generalize upd H Lf (.lst []) = H1 at e0 hLf1 ⊢
      have hP1 := hP.ext e0
      refine ⟨_, rfl, .inl ⟨_, rfl, _, rfl, _, rfl, _, rfl, _, _, rfl, rfl, p, bs, z - (h : Int), rfl, SqL.of hP1.2, .inl ⟨_, rfl, _, _, rfl, ?_⟩⟩⟩
      have hM : (if told bs (z - (h : Int)) < k then told bs (z - (h : Int)) else k) = ((rN z bs k h : Nat) : Int) := by
        rw [← rN_cast g k0 h]
        unfold rch
        split <;> omega
      rw [hM]
      have hr60 : rN z bs k h ≤ 99 := by
        have h3 := rN_cast (z := z) (bs := bs) g k0 h
        have h4 : rch z bs k ((h : Nat) : Int) = min k (told bs (z - ((h : Nat) : Int))) := rfl
        omega
      have hG : cutG (rN z bs k) n (l + 1) h = (desc (min (rN z bs k h) (n - h))).findSome? fun p => (cutG (rN z bs k) n l (h + p)).map (p :: ·) := if_neg hne
      rw [hG] at q
      generalize hc : min (rN z bs k h) (n - h) = c at q
      refine ⟨_, rfl, .inl ⟨_, rfl, _, rfl, _, rfl, _, _, rfl, rfl, .inl ⟨_, rfl, _, _, rfl, 1, rfl, (c : Int), 0, -1, c, ?_, ?_, ?_⟩⟩⟩
      · show [V.int (if ((n : Int) - (h : Int)) < ((rN z bs k h : Nat) : Int) then ((n : Int) - (h : Int)) else ((rN z bs k h : Nat) : Int)), V.int 0, V.int (-1)] = [V.int (c : Int), V.int 0, V.int (-1)]
        rw [show (if ((n : Int) - (h : Int)) < ((rN z bs k h : Nat) : Int) then ((n : Int) - (h : Int)) else ((rN z bs k h : Nat) : Int)) = (c : Int) by split <;> omega]
      · have := RgC.neg (i := (c : Int)) (j := 0) (by omega) (by omega) (by decide) (by decide)
        rwa [show ((c : Int) - 0).toNat = c by omega] at this
      refine for_it walk_rangeC (fun j σ3 H3 => (∃ o9 o10, σ3 = [some (.ref t), some (.int (h : Int)), some (.int (n : Int)), some (.int ((l + 1 : Nat) : Int)), some (.int z), some (.ref p), some (.int k), some (.ref Lf), some (.int ((rN z bs k h : Nat) : Int)), o9, o10]) ∧ Ext H1 H3 ∧ ∀ i y, i < j → (desc c)[i]? = some y → (cutG (rN z bs k) n l (h + y)).map (y :: ·) = none) ⟨⟨_, _, rfl⟩, Ext.rfl', fun i y hi => nomatch hi⟩ (fun _ _ _ _ _ => trivial) (fun j x σ3 H2 H3 hj pv hy => ?_) (fun σ3 H3 pv => ?_)
      · obtain ⟨⟨o9, o10, rfl⟩, e2, hno⟩ := pv
        obtain rfl : H3 = H2 := hy.1
        obtain rfl : x = .int ((c : Int) + (j : Nat) * -1) := hy.2
        obtain ⟨pc, hpc⟩ : ∃ pc : Nat, c - j = pc := ⟨_, rfl⟩
        have hp1 : 1 ≤ pc := by omega
        have hdj : (desc c)[j]? = some pc := by rw [desc_at hj, hpc]
        have hv : (c : Int) + (j : Nat) * -1 = (pc : Int) := by omega
        rw [hv]
        have hP3 := hP1.ext e2
        refine ⟨_, rfl, _, rfl, _, rfl, _, _, rfl, rfl, _, rfl, _, rfl, _, _, rfl, rfl, t, p, z, bs, k, n, h + pc, ?_, hP3, g, k0, k99, z1, z60, by omega, n20, fun L ys H4 e4 hL0 hL hres => ?_⟩
        · show [V.ref t, V.int ((h : Int) + (pc : Int)), V.int (n : Int), V.int (((l + 1 : Nat) : Int) - 1)] = [V.ref t, V.int ((h + pc : Nat) : Int), V.int (n : Int), V.int (l : Int)]
          rw [show (h : Int) + (pc : Int) = ((h + pc : Nat) : Int) by omega, show ((l + 1 : Nat) : Int) - 1 = (l : Int) by omega]
        · refine ⟨_, rfl, by show 0 ≤ sizeLine; decide, fun N hN => ?_⟩
          have e5 := Ext.upd (o := .lst []) hN
          have hN5 : upd H4 N (.lst []) N = some (.lst []) := upd_same
          have hres5 := hres.k e5
          have hL5 := e5 _ _ hL
          generalize upd H4 N (.lst []) = H5 at e5 hN5 hres5 hL5 ⊢
          have e15 := (e2.trans e4).trans e5
          refine Res.ne hres5 hL5 hN5 ⟨_, rfl, ?_⟩
          cases ho : cutG (rN z bs k) n l (h + pc) with
          | none =>
            refine iteF ⟨⟨_, _, rfl⟩, e15, fun i y hi hyy => ?_⟩
            by_cases hij : i < j
            · exact hno i y hij hyy
            · obtain rfl : i = j := by omega
              rw [hdj] at hyy
              cases hyy
              rw [ho]
              rfl
          | some ps =>
            rw [ho] at hres5
            obtain ⟨tt, rfl, htt⟩ := hres5
            have hfa := find_at (F := fun p => (cutG (rN z bs k) n l (h + p)).map (p :: ·)) hdj hno (by rw [ho]; rfl)
            rw [hfa, ho] at q
            refine iteT ⟨_, rfl, by show 1 ≤ sizeLine; decide, fun t1 ht1 => ?_⟩
            have e6 := Ext.upd (o := .tup [V.int (pc : Int)]) ht1
            refine ⟨_, rfl, L, [.ref tt], 0, .ref tt, rfl, rfl, SqL.of (e6 _ _ hL5), rfl, t1, tt, _, _, rfl, rfl, upd_same, e6 _ _ htt, ?_, fun p3 H7 e7 hp3 => ⟨by show 1 ≤ sizeLine; decide, fun L2 hL2 => ?_⟩⟩
            · have := (cutG_row ho).1.len
              rw [natsV_len]
              exact Nat.le_trans (show 1 + ps.length ≤ 100 by omega) (by decide)
            · have e8 := Ext.upd (o := .lst [V.ref p3]) hL2
              have e08 := ((e0.trans e15).trans e6).trans e7
              exact q L2 [.ref p3] _ (e08.trans e8) (ext_none e08 hL2) upd_same ⟨p3, rfl, e8 _ _ hp3⟩
      · obtain ⟨⟨o9, o10, rfl⟩, e2, hno⟩ := pv
        refine ⟨_, rfl, q Lf [] H3 (e0.trans e2) hLf (e2 _ _ hLf1) ?_⟩
        rw [show (desc c).findSome? (fun p => (cutG (rN z bs k) n l (h + p)).map (p :: ·)) = none from List.findSome?_eq_none_iff.mpr fun y hy => by
          obtain ⟨i, hi⟩ := List.getElem?_of_mem hy
          exact hno i y (by have := (List.getElem?_eq_some_iff.mp hi).1; rwa [desc_len] at this) hi]
        rfl
theorem own_cuts (D : DefAt K mg "_law_cuts" s__law_cuts pm__law_cuts) (T : Txt K mg A) (O__law_told : Own P w K mg base CX0 "_law_told" 1 pm__law_told (spLTold K)) : ∀ l, Own P w K mg base CX0 "_law_cuts" (l + 2) pm__law_cuts (spP K l)
  | 0 => D.own fun f fd F => F.ok sc__law_cuts (fun vs H Q E h => h.elim) (fun cdv A' outer sh H vs Q E hr h => h.elim)
  | l + 1 => D.own fun f fd F => lcut_ok F T O__law_told (own_cuts D T O__law_told l)
end
end K08

set_option Elab.async false
set_option maxRecDepth 100000
set_option maxHeartbeats 4000000
namespace K08
open PySem PySem.Spec PyProof.Rows L2
/-- the rows behind h along ps -/
def rowsL (z : Int) (bs : List Int) : Int → List Nat → List (Int × Int)
  | _, [] => []
  | h, p :: ps => (h + (p : Int), told bs (z - (h + (p : Int)))) :: rowsL z bs (h + (p : Int)) ps
theorem rowsL_snoc {z : Int} {bs : List Int} {p : Nat} : ∀ {ps : List Nat} {h : Int}, rowsL z bs h (ps ++ [p]) = rowsL z bs h ps ++ [(h + (ps.sum : Nat) + (p : Int), told bs (z - (h + (ps.sum : Nat) + (p : Int))))]
  | [], h => by
    show [(h + (p : Int), told bs (z - (h + (p : Int))))] = [(h + ((0 : Nat) : Int) + (p : Int), told bs (z - (h + ((0 : Nat) : Int) + (p : Int))))]
    rw [show h + ((0 : Nat) : Int) = h from Int.add_zero h]
  | q :: ps, h => by
    show _ :: rowsL z bs _ (ps ++ [p]) = _ :: (rowsL z bs _ ps ++ _)
    rw [rowsL_snoc, List.sum_cons, show h + (q : Int) + ((ps.sum : Nat) : Int) = h + ((q + ps.sum : Nat) : Int) by omega]
theorem rowsL_len {z : Int} {bs : List Int} : ∀ {ps : List Nat} {h : Int}, (rowsL z bs h ps).length = ps.length
  | [], _ => rfl
  | _ :: _, _ => congrArg (· + 1) rowsL_len
def Fine (z : Int) (bs : List Int) : Int → List Nat → Prop
  | _, [] => True
  | h, p :: ps => (p : Int) ≤ told bs (z - h) ∧ Fine z bs (h + (p : Int)) ps
theorem fine_rows {z : Int} {bs : List Int} : ∀ {ps : List Nat} {h : Int}, Fine z bs h ps → fillR z bs h (ps.map fun (p : Nat) => PyData.int (p : Int)) = (rowsL z bs h ps, false)
  | [], _, _ => rfl
  | p :: ps, h, ⟨a, b⟩ => by
    rw [List.map_cons, fillR_ok (by omega) a, fine_rows b]
    rfl
theorem row_fine {z : Int} {bs : List Int} {k : Int} {n : Nat} (g : OkB bs) (k0 : 0 ≤ k) : ∀ {ps : List Nat} {h : Nat}, IsRow (rN z bs k) n h ps → Fine z bs (h : Int) ps
  | [], _, _ => trivial
  | p :: ps, h, ⟨a, b, c⟩ => by
    have h1 := rN_cast (z := z) (bs := bs) g k0 h
    have h2 : rch z bs k (h : Int) = min k (told bs (z - (h : Int))) := rfl
    refine ⟨by omega, ?_⟩
    rw [show (h : Int) + (p : Int) = ((h + p : Nat) : Int) by omega]
    exact row_fine g k0 c
theorem cut_fine {z : Int} {bs : List Int} {k : Int} {n : Nat} {ps : List Nat} (g : OkB bs) (k0 : 0 ≤ k) (h0 : (cutsI z bs k n)[0]? = some ps) : Fine z bs 0 ps ∧ ps.length ≤ n + 1 := by
  unfold cutsI at h0
  by_cases hn : n = 0
  · rw [if_pos hn] at h0
    cases h0
    exact ⟨⟨told_nn g _, trivial⟩, by show 1 ≤ n + 1; omega⟩
  · rw [if_neg hn] at h0
    cases hm : need (rN z bs k) n 0 with
    | none => rw [hm] at h0; cases h0
    | some m =>
      rw [hm] at h0
      obtain ⟨p1, p2⟩ := (mem_cutsF m 0 (Nat.zero_le _) hm ps).mp (List.mem_of_getElem? h0)
      have := p1.len
      exact ⟨row_fine (h := 0) g k0 p1, by omega⟩
theorem head_zero {α : Type} (l : List α) : l.head? = l[0]? := List.head?_eq_getElem?
theorem tups_snoc {α : Type} {c : α → List V} {L : List α} {ys : List V} {H : Hp} {t : Addr} {ps : α} (h : TupsAt c L ys H) (hl : ys.length = L.length) (ht : H t = some (.tup (c ps))) : TupsAt c (L ++ [ps]) (ys ++ [.ref t]) H := by
  refine TupsAt.snoc (L := L ++ [ps]) (fun i v hv => ?_) (by rw [hl, List.getElem?_append_right (Nat.le_refl _), Nat.sub_self]; rfl) ht
  obtain ⟨u, q, a, b, d⟩ := h i v hv
  exact ⟨u, q, a, by rw [List.getElem?_append_left (List.getElem?_eq_some_iff.mp b).1]; exact b, d⟩
section
variable {P : Program} {w : World} {K : PySem.W.Frag} {mg : Str → Option Value} {base : Heap} {A : Ad}
def spCA (K : PySem.W.Frag) : Sp := fun vs H Q E => ∃ l, l ≤ 10 ∧ spC K l vs H Q E
theorem ok_cutsA {f : Addr} {fd : FuncData} (F : Fun K "_law_cuts" "_law_cuts" s__law_cuts f fd) (T : Txt K mg A) (D__law_cuts : DefAt K mg "_law_cuts" s__law_cuts pm__law_cuts) (O__law_told : Own P w K mg base CX0 "_law_told" 1 pm__law_told (spLTold K)) : FnOk P w K mg base CX0 13 f fd pm__law_cuts (spCA K) := by
  exact ⟨fun vs H Q E ⟨l, _, h⟩ => (lcut_ok F T O__law_told (own_cuts D__law_cuts T O__law_told l)).len vs H Q E h, fun A' outer s H args us vs Q E hr he hb hv ⟨l, hl, h⟩ => ((lcut_ok F T O__law_told (own_cuts D__law_cuts T O__law_told l)).mono (show l + 3 ≤ 13 by omega)).run A' outer s H args us vs Q E hr he hb hv h⟩
def spFirst (K : PySem.W.Frag) : Sp := fun vs H Q _ => ∃ (t p : Addr) (z : Int) (bs : List Int) (k : Int) (n : Nat), vs = [.ref t, .int (n : Int)] ∧ Pts H t p z bs k ∧ OkB bs ∧ 0 ≤ k ∧ k ≤ 99 ∧ 1 ≤ z ∧ z ≤ 60 ∧ n ≤ 10 ∧
  (cutsI z bs k n = [] → ∀ H', Ext H H' → Q .non H') ∧ ∀ ps, (cutsI z bs k n)[0]? = some ps → ∀ t H', Ext H H' → H' t = some (.tup (natsV ps)) → Q (.ref t) H'
theorem ok_first {f : Addr} {fd : FuncData} (F : Fun K "_law_first" "_law_first" s__law_first f fd) (T : Txt K mg A) (O__law_cuts : Own P w K mg base CX0 "_law_cuts" 13 pm__law_cuts (spCA K)) : FnOk P w K mg base CX0 14 f fd pm__law_first (spFirst K) := by
  refine F.ok sc__law_first (fun vs H Q E h => ?_) (fun cdv A' outer sh H vs Q E hr h => ?_)
  · obtain ⟨_, _, _, _, _, _, rfl, _⟩ := h
    rfl
  · obtain ⟨t, p, z, bs, k, n, rfl, hP, g, k0, k99, z1, z60, n10, q1, q2⟩ := h
    refine ⟨_, pss_cons (ps_if (pt_cmpR op_eq (pv 1) (pe_int) (nomark _)) (pss_one (ps_ret (pe_tup (pa_cons (pe_int) pa_nil)))) (pss_nil))
      (pss_cons (ps_for PassesOwn.never rfl (pi_range2 rfl T.n_range (pa_cons (pe_int) (pa_cons (pe_op op_add (pv 1) (pe_int)) pa_nil))) (pg_name (i := 2) sc__law_first.nd rfl (Or.inl rfl)) (pss_cons (ps_set (i := 3) sc__law_first.nd rfl (Or.inl rfl) (pe_own O__law_cuts (hr.mono (by decide)) pass0 (pa_cons (pv 0) (pa_cons (pe_int) (pa_cons (pv 1) (pa_cons (pv 2) pa_nil))))))
      (pss_one (ps_if (pt_cmpR (op_neD hr.units) (pv 3) (pe_lst (pa_nil)) (nomark _)) (pss_one (ps_ret (pe_ix ix_list (pv 3) (pe_int) (fun _ _ => rfl)))) (pss_nil)))))
      (pss_one (ps_ret (pe_non)))), ?_⟩
    refine ⟨_, rfl, rfl, _, rfl, ?_⟩
    rw [dvi]
    by_cases hn : (n : Int) = 0
    · rw [decide_eq_true hn]
      obtain rfl : n = 0 := by omega
      exact iteT ⟨by show 1 ≤ sizeLine; decide, fun t1 h1 => q2 [0] rfl t1 _ (Ext.upd h1) upd_same⟩
    rw [decide_eq_false hn]
    have hI : cutsI z bs k n = cutsO (rN z bs k) n (need (rN z bs k) n 0) := if_neg (by omega)
    have hn0 : 0 < n := by omega
    have h1m : ∀ m, need (rN z bs k) n 0 = some m → 1 ≤ m ∧ m ≤ n := fun m hm => by
      obtain ⟨⟨ps, hps, hl⟩, _⟩ := need_some (Nat.zero_le n) hm
      have := hps.len
      exact ⟨((need_step hn0).mp hm).1, by omega⟩
    refine iteF ⟨_, rfl, _, _, rfl, rfl, _, _, rfl, ⟨by omega, by omega, by omega, by omega⟩, ?_⟩
    refine for_range (lo := 1) (n := ((n : Int) + 1 - 1).toNat) (fun i σ' H' => Ext H H' ∧ (∃ o2 o3, σ' = [some (.ref t), some (.int (n : Int)), o2, o3]) ∧ ∀ m, need (rN z bs k) n 0 = some m → i < m) ⟨Ext.rfl', ⟨_, _, rfl⟩, fun m hm => (h1m m hm).1⟩ (fun i σ' H1 hi pv => ?_) (fun σ' H1 pv => ?_)
    · obtain ⟨e1, ⟨o2, o3, rfl⟩, hno⟩ := pv
      have hin : i < n := by omega
      refine ⟨_, rfl, _, rfl, _, rfl, i + 1, by omega, t, p, z, bs, k, n, 0, ?_, hP.ext e1, g, k0, k99, z1, z60, Nat.zero_le _, by omega, fun L ys H2 e2 hL0 hL hres => ?_⟩
      · show [V.ref t, V.int 0, V.int (n : Int), V.int (1 + (i : Int))] = [V.ref t, V.int ((0 : Nat) : Int), V.int (n : Int), V.int ((i + 1 : Nat) : Int)]
        rw [show 1 + (i : Int) = ((i + 1 : Nat) : Int) by omega]
        rfl
      · refine ⟨_, rfl, by show 0 ≤ sizeLine; decide, fun N hN => ?_⟩
        have e3 := Ext.upd (o := .lst []) hN
        have hN3 : upd H2 N (.lst []) N = some (.lst []) := upd_same
        have hres3 := hres.k e3
        have hL3 := e3 _ _ hL
        generalize upd H2 N (.lst []) = H3 at e3 hN3 hres3 hL3 ⊢
        have e03 := (e1.trans e2).trans e3
        refine Res.ne hres3 hL3 hN3 ⟨_, rfl, ?_⟩
        cases hm : need (rN z bs k) n 0 with
        | none =>
          rw [cutG_none (Nat.zero_le _) hm]
          exact iteF ⟨e03, ⟨_, _, rfl⟩, fun m h => nomatch h⟩
        | some m =>
          have him := hno m hm
          by_cases hlt : i + 1 < m
          · rw [cutG_less (Nat.zero_le _) hm hlt]
            exact iteF ⟨e03, ⟨_, _, rfl⟩, fun m' h => by cases h; exact hlt⟩
          · obtain rfl : m = i + 1 := by omega
            have hcg := cutG_need (Nat.zero_le _) hm
            rw [head_zero] at hcg
            rw [hm] at hI
            have hI' : cutsI z bs k n = cutsF (rN z bs k) n (i + 1) 0 := hI
            rw [← hI'] at hcg
            rw [hcg] at hres3 ⊢
            cases hc : (cutsI z bs k n)[0]? with
            | none =>
              have hne := cutsF_ne (Nat.zero_le _) hm
              rw [← hI'] at hne
              cases hz : cutsI z bs k n with
              | nil => exact absurd hz hne
              | cons a l => rw [hz] at hc; cases hc
            | some ps =>
              rw [hc] at hres3
              obtain ⟨tt, rfl, htt⟩ := hres3
              exact iteT ⟨_, rfl, L, [.ref tt], 0, .ref tt, rfl, rfl, SqL.of hL3, rfl, q2 ps hc tt _ e03 htt⟩
    · obtain ⟨e1, ⟨o2, o3, rfl⟩, hno⟩ := pv
      refine q1 ?_ H1 e1
      cases hm : need (rN z bs k) n 0 with
      | none => rw [hI, hm]; rfl
      | some m =>
        have := hno m hm
        have := h1m m hm
        omega
end
end K08

set_option Elab.async false
set_option maxRecDepth 100000
set_option maxHeartbeats 4000000
namespace K08
open PySem PySem.Spec PyProof.Rows L2
section
variable {P : Program} {w : World} {K : PySem.W.Frag} {mg : Str → Option Value} {base : Heap} {A : Ad}
def spRows : Sp := fun vs H Q _ => ∃ (t p : Addr) (z : Int) (bs : List Int) (k : Int) (c : Addr) (ps : List Nat), vs = [.ref t, .ref c] ∧ Pts H t p z bs k ∧ H c = some (.tup (natsV ps)) ∧ ps.length ≤ 20 ∧
  ∀ L ys H', Ext H H' → H L = none → H' L = some (.lst ys) → TupsAt pairV ((0, told bs z) :: rowsL z bs 0 ps) ys H' → ys.length = ps.length + 1 → Q (.ref L) H'
theorem ok_rows {f : Addr} {fd : FuncData} (F : Fun K "_law_rows" "_law_rows" s__law_rows f fd) (T : Txt K mg A) (O__law_told : Own P w K mg base CX0 "_law_told" 1 pm__law_told (spLTold K)) : FnOk P w K mg base CX0 2 f fd pm__law_rows spRows := by
  refine F.ok sc__law_rows (fun vs H Q E h => ?_) (fun cdv A' outer sh H vs Q E hr h => ?_)
  · obtain ⟨_, _, _, _, _, _, _, rfl, _⟩ := h
    rfl
  · obtain ⟨t, p, z, bs, k, c, ps, rfl, hP, hc, hl, q⟩ := h
    refine ⟨_, pss_cons (ps_set (i := 2) sc__law_rows.nd rfl (Or.inl rfl) (pe_int))
      (pss_cons (ps_set (i := 3) sc__law_rows.nd rfl (Or.inl rfl) (pe_lst (pa_cons (pe_tup (pa_cons (pe_int) (pa_cons (pe_own O__law_told (hr.mono (by decide)) pass0 (pa_cons (pe_ix ix_tup (pv 0) (pe_int) (fun _ _ => rfl)) (pa_cons (pe_ix ix_tup (pv 0) (pe_int) (fun _ _ => rfl)) pa_nil))) pa_nil))) pa_nil)))
      (pss_cons (ps_for PassesOwn.never rfl (pi_tup (pv 1)) (pg_name (i := 4) sc__law_rows.nd rfl (Or.inl rfl)) (pss_cons (ps_set (i := 2) sc__law_rows.nd rfl (Or.inl rfl) (pe_op op_add (pv 2) (pv 4)))
      (pss_one (ps_expr (pe_bm PySem.F.plainAttrs_list PySem.F.slot_list_append PySem.F.type_list_append mt_append (pv 3) (pa_cons (pe_tup (pa_cons (pv 2) (pa_cons (pe_own O__law_told (hr.mono (by decide)) pass0 (pa_cons (pe_ix ix_tup (pv 0) (pe_int) (fun _ _ => rfl)) (pa_cons (pe_op op_sub (pe_ix ix_tup (pv 0) (pe_int) (fun _ _ => rfl)) (pv 2)) pa_nil))) pa_nil))) pa_nil))))))
      (pss_one (ps_ret (pv 3))))), ?_⟩
    refine ⟨_, rfl, t, _, 1, .ref p, rfl, rfl, SqT.of hP.1, rfl, _, rfl, t, _, 0, .int z, rfl, rfl, SqT.of hP.1, rfl, p, bs, z, rfl, SqL.of hP.2, by show 2 ≤ sizeLine; decide, fun t1 h1 => ⟨by show 1 ≤ sizeLine; decide, fun L hL => ?_⟩⟩
    have e1 := Ext.upd (o := .tup [V.int 0, V.int (told bs z)]) h1
    have e2 := Ext.upd (o := .lst [V.ref t1]) hL
    have ht1 := e2 _ _ (upd_same (H := H) (a := t1) (o := .tup [V.int 0, V.int (told bs z)]))
    have hL0 := ext_none e1 hL
    have e12 := e1.trans e2
    have hL2 : upd (upd H t1 (.tup [V.int 0, V.int (told bs z)])) L (.lst [V.ref t1]) L = some (.lst [V.ref t1]) := upd_same
    generalize upd (upd H t1 (.tup [V.int 0, V.int (told bs z)])) L (.lst [V.ref t1]) = H2 at ht1 e12 hL2 ⊢
    refine ⟨_, rfl, c, rfl, ⟨_, SqT.of (e12 _ _ hc)⟩, ?_⟩
    refine for_it (walk_tup (xs := natsV ps)) (fun i σ' H' => Ext H H' ∧ ∃ ys o4, σ' = [some (.ref t), some (.ref c), some (.int (0 + (((ps.take i).sum : Nat) : Int))), some (.ref L), o4] ∧ H' L = some (.lst ys) ∧ ys.length = i + 1 ∧ TupsAt pairV ((0, told bs z) :: rowsL z bs 0 (ps.take i)) ys H') ⟨e12, [.ref t1], _, rfl, hL2, rfl, tups_snoc (L := []) (ys := []) (fun i v hv => by cases hv) rfl ht1⟩ (fun i σ' H' _ pv => SqT.of (pv.1 _ _ hc)) (fun i x σ' H3 H4 hi pv hy => ?_) (fun σ' H3 pv => ?_)
    · obtain ⟨e3, ys, o4, rfl, hL3, hyl, hts⟩ := pv
      obtain ⟨rfl, hx⟩ := hy
      rw [natsV_len] at hi
      obtain ⟨pc, hpc, rfl⟩ : ∃ pc, ps[i]? = some pc ∧ V.int ((pc : Nat) : Int) = x := by
        rw [show natsV ps = ps.map fun p => V.int ((p : Nat) : Int) from rfl, List.getElem?_map] at hx
        exact Option.map_eq_some_iff.mp hx
      have hP3 := hP.ext e3
      refine ⟨_, rfl, _, rfl, _, _, rfl, rfl, ?_⟩
      refine ⟨_, rfl, .inl ⟨rfl, _, SqL.of hL3⟩, _, rfl, _, rfl, t, _, 1, .ref p, rfl, rfl, SqT.of hP3.1, rfl, _, rfl, t, _, 0, .int z, rfl, rfl, SqT.of hP3.1, rfl, _, rfl, _, _, rfl, rfl, p, bs, _, rfl, SqL.of hP3.2, by show 2 ≤ sizeLine; decide, fun t2 h2 => ?_⟩
      have e4 := Ext.upd (o := .tup [V.int (0 + (((ps.take i).sum : Nat) : Int) + (pc : Int)), V.int (told bs (z - (0 + (((ps.take i).sum : Nat) : Int) + (pc : Int))))]) h2
      have hL4 := e4 _ _ hL3
      refine ⟨L, ys, _, rfl, rfl, hL4, ?_, ?_⟩
      · rw [hyl]
        exact Nat.lt_of_le_of_lt (show i + 1 ≤ 100 by omega) (by decide)
      · have hlen : ((0, told bs z) :: rowsL z bs 0 (ps.take i)).length = ys.length := by
          rw [List.length_cons, rowsL_len, List.length_take, hyl]
          omega
        refine ⟨ext_mut (e3.trans e4) hL0, ys ++ [.ref t2], some (.int (pc : Int)), ?_, upd_same, by rw [List.length_append, hyl]; rfl, ?_⟩
        · rw [take_snoc hpc, List.sum_append, show 0 + (((ps.take i).sum + [pc].sum : Nat) : Int) = 0 + (((ps.take i).sum : Nat) : Int) + (pc : Int) by rw [List.sum_cons, List.sum_nil]; omega]
          rfl
        · rw [take_snoc hpc, rowsL_snoc, ← List.cons_append]
          refine tups_snoc (TupsAt.keep (TupsAt.keep hts (ExtP.of (H := H) e4)) (ExtP.lst hL0 hL4)) hlen.symm ?_
          rw [upd_ne (fun z => by rw [z] at h2; rw [hL3] at h2; cases h2)]
          exact upd_same
    · obtain ⟨e3, ys, o4, rfl, hL3, hyl, hts⟩ := pv
      rw [natsV_len] at hyl hts
      rw [List.take_length] at hts
      exact ⟨_, rfl, q L ys H3 e3 hL0 hL3 hts hyl⟩
end
end K08

set_option Elab.async false
set_option maxRecDepth 100000
set_option maxHeartbeats 8000000
namespace K08
open PySem PySem.Spec PyProof.Rows L2
theorem nls (hst : StB H b) {x : Addr} {o : HO} (h : H x = some o) (hn : ∀ xs, o ≠ .lst xs) : x ≠ b := by
  obtain ⟨x0, x1, x2, x3, h1⟩ := hst
  rintro rfl
  rw [h1] at h
  cases h
  exact hn _ rfl
section
variable {P : Program} {w : World} {K : PySem.W.Frag} {mg : Str → Option Value} {base : Heap} {A : Ad}
theorem sqT_b {a b : Addr} {H H' : Hp} {xs : List V} (hst : StB H b) (e : ExtB b H H') (h : SqT K H a xs) : SqT K H' a xs := by
  rcases h with (h | ⟨o, h⟩) | h
  · exact .inl (.inl (e _ _ (nls hst h (fun _ z => nomatch z)) h))
  · exact .inl (.inr ⟨o, e _ _ (nls hst h (fun _ z => nomatch z)) h⟩)
  · exact .inr h
theorem rm_b {b r : Addr} {H H' : Hp} {z : Int} {bs : List Int} (hst : StB H b) (e : ExtB b H H') (h : RmAt K A H r z bs) : RmAt K A H' r z bs := by
  obtain ⟨dx, s, h1, dy, pb, h2, h3⟩ := h
  exact ⟨dx, s, e _ _ (nls hst h1 (fun _ z => nomatch z)) h1, dy, pb, e _ _ (nls hst h2 (fun _ z => nomatch z)) h2, sqT_b hst e h3⟩
theorem pts_b {b t p : Addr} {H H' : Hp} {z k : Int} {bs : List Int} (hst : StB H b) (np : p ≠ b) (e : ExtB b H H') (h : Pts H t p z bs k) : Pts H' t p z bs k := ⟨e _ _ (nls hst h.1 (fun _ z => nomatch z)) h.1, e _ _ np h.2⟩
theorem nats_dps {H : Hp} : ∀ ps : List Nat, DpAll K H (natsV ps) (ps.map fun (p : Nat) => PyData.int (p : Int))
  | [] => .nil
  | _ :: ps => .cons (.int _) (nats_dps ps)
theorem mk_room {H1 : Hp} {z : Int} {s : Addr} {bs : List Int} {R : VK} {E : XK} {x0 dx : Addr} (hx0 : H1 x0 = none) (hdx : H1 dx = none) (hne : dx ≠ x0) (z1 : 1 ≤ z) (z60 : z ≤ 60) (hS : StAt K A H1 s bs)
    (q : ∀ H', Ext H1 H' → RmAt K A H' x0 z bs → R .non H') : spRoomInit K A [.ref x0, .int z, .ref s] (upd (upd H1 dx (.own x0)) x0 (.ins A.Room dx [])) R E := by
  have e0 := (Ext.upd (o := .own x0) hdx).upd' (o := .ins A.Room dx []) (by rw [upd_ne hne.symm]; exact hx0)
  have hb : betD (.int z) 1 60 = true := by
    rw [bet_int, decide_eq_true z1, decide_eq_true z60]
    rfl
  refine ⟨x0, dx, _, _, .int z, rfl, upd_same, .int _, fun h => (by rw [hb] at h; cases h), fun _ => .inr ⟨s, bs, z, rfl, hS.ext e0, rfl, fun H' hr hk => q H' (fun x o h => hk x o (ne_of_none h hx0) (e0 _ _ h)) hr⟩⟩
def rowD (x : Int × Int) : PyData := .tuple [.int x.1, .int x.2]
theorem rows_shp {L : List (Int × Int)} : SeqAt.shaped (.list (L.map rowD)) = true := shp_lst2 fun d hd => by
  obtain ⟨x, _, rfl⟩ := List.mem_map.mp hd
  exact ⟨rfl, by show max 0 (max 0 0) + 1 ≤ 1; decide⟩
theorem pairs_dps {H : Hp} : ∀ {L : List (Int × Int)} {ys : List V}, TupsAt pairV L ys H → ys.length = L.length → DpAll K H ys (L.map rowD)
  | [], [], _, _ => .nil
  | [], _ :: _, _, h => nomatch h
  | _ :: _, [], _, h => nomatch h
  | x :: L, y :: ys, h, hl => by
    obtain ⟨t, q, rfl, hq, ht⟩ := h 0 y rfl
    cases hq
    refine .cons (.tup (SqT.of ht) (.cons (.int _) (.cons (.int _) .nil))) (pairs_dps (fun i v hv => h (i + 1) v hv) (Nat.succ.inj hl))
theorem cuts_some {z : Int} {bs : List Int} {k : Int} {n : Nat} (g : OkB bs) (k0 : 0 ≤ k) (z1 : 1 ≤ z) : (decide ((n : Int) ≤ topN z bs k) = true ↔ cutsI z bs k n ≠ []) := by
  by_cases hn : n = 0
  · subst hn
    have h1 : cutsI z bs k 0 = [[0]] := if_pos rfl
    rw [h1]
    refine ⟨fun _ => List.cons_ne_nil _ _, fun _ => decide_eq_true ?_⟩
    have h2 : 0 ≤ bs.headD 0 := by
      cases hb : bs with
      | nil => exact Int.le_refl 0
      | cons x l =>
        have := g.2.2.1 x (by rw [hb]; exact List.mem_cons_self)
        show 0 ≤ x
        omega
    unfold topN
    split <;> omega
  · have hI : cutsI z bs k n = cutsO (rN z bs k) n (need (rN z bs k) n 0) := if_neg hn
    rw [← cutsI_goes g k0 z1 (show 1 ≤ n by omega), hI]
    cases hm : need (rN z bs k) n 0 with
    | none => exact ⟨fun h => (nomatch h), fun h => absurd rfl h⟩
    | some m => exact ⟨fun _ => cutsF_ne (Nat.zero_le _) hm, fun _ => rfl⟩
theorem head_of {α : Type} {l : List α} (h : l ≠ []) : ∃ x, l[0]? = some x := by
  cases l with
  | nil => exact absurd rfl h
  | cons x l => exact ⟨x, rfl⟩
def spLaw (K : PySem.W.Frag) : Sp := fun vs H Q _ => ∃ (a : Addr) (ns : List Int), vs = [.ref a] ∧ SqL K H a (ns.map V.int) ∧ ns.length ≤ 63 ∧ ∀ H', Q (.bl true) H'
theorem ok_law {f : Addr} {fd : FuncData} (F : Fun K "law" "law" s_law f fd) (T : Txt K mg A) (O__law_start : Own P w K mg base CX0 "_law_start" 1 pm__law_start (spStart K)) (O__law_draw : Own P w K mg base CX0 "_law_draw" 1 pm__law_draw (spDrawB K)) (O__law_rising : Own P w K mg base CX0 "_law_rising" 2 pm__law_rising (spRise K))
    (O_Steps : OwnC P w K mg base (L2.CX P w) "Steps" A.Steps 3 pm_Steps_init (spStepsInit K A)) (O_Room : OwnC P w K mg base (L2.CX P w) "Room" A.Room 3 pm_Room_init (spRoomInit K A)) (O__law_first : Own P w K mg base CX0 "_law_first" 14 pm__law_first (spFirst K)) (O_told_cut : Own P w K mg base (L2.CX P w) "told_cut" 8 pm_told_cut (spTold1 K A))
    (O_goes : Own P w K mg base (L2.CX P w) "goes" 5 pm_goes (spGoes K A)) (O_filled : OwnG3 P w K mg base "filled" 5 pm_filled (spFilled K A)) (O__law_rows : Own P w K mg base CX0 "_law_rows" 2 pm__law_rows spRows) : FnOk P w K mg base CX0 15 f fd pm_law (spLaw K) := by
  refine F.ok sc_law (fun vs H Q E h => ?_) (fun cdv A' outer sh H vs Q E hr h => ?_)
  · obtain ⟨_, _, rfl, _⟩ := h
    rfl
  · obtain ⟨a, ns, rfl, hS, hlen, kk⟩ := h
    refine ⟨_, pss_cons (ps_set (i := 1) sc_law.nd rfl (Or.inl rfl) (pe_own O__law_start (hr.mono (by decide)) pass0 (pa_cons (pv 0) pa_nil)))
      (pss_cons (ps_set (i := 2) sc_law.nd rfl (Or.inl rfl) (pe_own O__law_rising (hr.mono (by decide)) pass0 (pa_cons (pv 0) (pa_cons (pv 1) (pa_cons (pe_int) (pa_cons (pe_int) pa_nil))))))
      (pss_cons (ps_set (i := 3) sc_law.nd rfl (Or.inl rfl) (pe_tup (pa_cons (pe_op op_add (pe_int) (pe_own O__law_draw (hr.mono (by decide)) pass0 (pa_cons (pv 0) (pa_cons (pv 1) (pa_cons (pe_int) pa_nil))))) (pa_cons (pv 2) (pa_cons (pe_own O__law_draw (hr.mono (by decide)) pass0 (pa_cons (pv 0) (pa_cons (pv 1) (pa_cons (pe_int) pa_nil)))) pa_nil)))))
      (pss_cons (ps_set (i := 4) sc_law.nd rfl (Or.inl rfl) (pe_new O_Room (hr.mono (by decide)) passL (pa_cons (pe_ix ix_tup (pv 3) (pe_int) (fun _ _ => rfl)) (pa_cons (pe_new O_Steps (hr.mono (by decide)) passL (pa_cons (pv 2) pa_nil)) pa_nil))))
      (pss_cons (ps_set (i := 5) sc_law.nd rfl (Or.inl rfl) (pe_own O__law_draw (hr.mono (by decide)) pass0 (pa_cons (pv 0) (pa_cons (pv 1) (pa_cons (pe_int) pa_nil)))))
      (pss_cons (ps_set (i := 6) sc_law.nd rfl (Or.inr rfl) (pe_own O__law_first (hr.mono (by decide)) pass0 (pa_cons (pv 3) (pa_cons (pv 5) pa_nil))))
      (pss_cons (ps_if (pt_cmpR (op_neD hr.units) (pe_own O_told_cut (hr.mono (by decide)) passL (pa_cons (pv 4) (pa_cons (pe_ix ix_tup (pv 3) (pe_int) (fun _ _ => rfl)) (pa_cons (pv 5) pa_nil)))) (pv 6) (nomark _)) (pss_one (ps_ret (pe_bl))) (pss_nil))
      (pss_cons (ps_if (pt_cmpR op_ne (pe_own O_goes (hr.mono (by decide)) passL (pa_cons (pv 4) (pa_cons (pe_ix ix_tup (pv 3) (pe_int) (fun _ _ => rfl)) (pa_cons (pv 5) pa_nil)))) (pe_cmpR op_notN (pv 6) (pe_non) (nomark _)) (nomark _)) (pss_one (ps_ret (pe_bl))) (pss_nil))
      (pss_cons (ps_if (pt_cmpR op_isN (pv 6) (pe_non) (nomark _)) (pss_one (ps_ret (pe_bl))) (pss_nil))
      (pss_cons (ps_if (pt_cmpR (op_neD hr.units) (pe_lcY (by rfl) O_filled (hr.mono (by decide)) (pa_cons (pv 4) (pa_cons (pv 6) pa_nil)) (blkOk_by (own := [("_law_row", 10)]) (N := nm_law) (sc := defScope s_law) (by decide +kernel)) (by decide +kernel)) (pe_own O__law_rows (hr.mono (by decide)) pass0 (pa_cons (pv 3) (pa_cons (pv 6) pa_nil))) (nomark _)) (pss_one (ps_ret (pe_bl))) (pss_nil))
      (pss_cons (ps_set (i := 7) sc_law.nd rfl (Or.inl rfl) (pe_new O_Room (hr.mono (by decide)) passL (pa_cons (pe_op op_add (pe_ix ix_tup (pv 3) (pe_int) (fun _ _ => rfl)) (pe_int)) (pa_cons (pe_new O_Steps (hr.mono (by decide)) passL (pa_cons (pv 2) pa_nil)) pa_nil))))
      (pss_cons (ps_set (i := 8) sc_law.nd rfl (Or.inl rfl) (pe_new O_Room (hr.mono (by decide)) passL (pa_cons (pe_ix ix_tup (pv 3) (pe_int) (fun _ _ => rfl)) (pa_cons (pe_new O_Steps (hr.mono (by decide)) passL (pa_cons (pe_op op_cat (pv 2) (pe_lst (pa_cons (pe_op op_add (pe_ix ix_list (pv 2) (pe_un un_neg (pe_int)) (fun _ _ => rfl)) (pe_int)) pa_nil))) pa_nil)) pa_nil))))
      (pss_cons (ps_set (i := 9) sc_law.nd rfl (Or.inl rfl) (pe_lst (pa_cons (pe_own O_told_cut (hr.mono (by decide)) passL (pa_cons (pv 4) (pa_cons (pe_op op_add (pe_ix ix_tup (pv 3) (pe_int) (fun _ _ => rfl)) (pe_int)) (pa_cons (pv 5) pa_nil)))) (pa_cons (pe_own O_told_cut (hr.mono (by decide)) passL (pa_cons (pv 7) (pa_cons (pe_ix ix_tup (pv 3) (pe_int) (fun _ _ => rfl)) (pa_cons (pv 5) pa_nil)))) pa_nil))))
      (pss_cons (ps_expr (pe_bm PySem.F.plainAttrs_list PySem.F.slot_list_append PySem.F.type_list_append mt_append (pv 9) (pa_cons (pe_own O_told_cut (hr.mono (by decide)) passL (pa_cons (pv 8) (pa_cons (pe_ix ix_tup (pv 3) (pe_int) (fun _ _ => rfl)) (pa_cons (pv 5) pa_nil)))) pa_nil)))
      (pss_one (ps_ret (pe_callB (cr_all rfl) (by rfl) T.n_all (by decide +kernel) (pa_cons (pe_lc (own := [("_law_one", 11)]) (g := gName 11) (by rfl) sc_law.nd (pi_list (pv 9)) (blkOk_by (own := [("_law_one", 11)]) (N := nm_law) (sc := defScope s_law) (by decide +kernel)) (fun _ _ _ _ _ => pg_name (i := 11) sc_law.nd rfl (Or.inl rfl)) (fun s1 H1 C1 cl fp => pts_nil) (fun s1 H1 C1 cl fp => pe_and (pe_cmpR op_notN (pv 11) (pe_non) (nomark _)) (pe_one (pe_cmpR op_le (pe_callB (call_len_seqK (K := K) rfl) (by rfl) T.n_len (by decide +kernel) (pa_cons (pv 11) pa_nil)) (pe_callB (call_len_seqK (K := K) rfl) (by rfl) T.n_len (by decide +kernel) (pa_cons (pv 6) pa_nil)) (nomark _))))) pa_nil))))))))))))))))), ?_⟩
    refine ⟨_, rfl, a, ns, rfl, hS, hlen, fun b H0 hb0 st0 e0 => ?_⟩
    have nab := sqL_new hS hb0
    have hS0 : SqL K H0 a (ns.map V.int) := hS.ext e0
    refine ⟨_, rfl, _, rfl, a, b, ns, rfl, hS0, nab, st0, fun D bs i H1 hD0 hD1 nDb hu hi2 st1 x1 => ?_⟩
    have hS1 := sqL_b hS0 nab x1
    have g := hu.ok (show i ≤ 3 by omega)
    refine ⟨_, rfl, _, rfl, a, b, ns, 10, rfl, hS1, nab, st1, by decide, by decide, fun zn H2 zn0 zn10 st2 x2 => ⟨_, _, rfl, rfl, _, rfl, _, rfl, _, rfl, a, b, ns, 8, rfl, sqL_b hS1 nab x2, nab, st2, by decide, by decide, fun k H3 k0 k8 st3 x3 => ⟨by show 3 ≤ sizeLine; decide, fun t ht => ?_⟩⟩⟩
    have z1 : 1 ≤ 1 + zn := by omega
    have z10 : 1 + zn ≤ 10 := by omega
    have z60 : 1 + zn ≤ 60 := by omega
    have hS3 := sqL_b (sqL_b hS1 nab x2) nab x3
    have hD3 := x3 D _ nDb (x2 D _ nDb hD1)
    have e4 := Ext.upd (o := .tup [V.int (1 + zn), V.ref D, V.int k]) ht
    have hP4 : Pts (upd H3 t (.tup [V.int (1 + zn), V.ref D, V.int k])) t D (1 + zn) bs k := ⟨upd_same, e4 _ _ hD3⟩
    refine ⟨_, rfl, t, _, 0, .int (1 + zn), rfl, rfl, SqT.of hP4.1, rfl, _, rfl, fun x0 d0 hx0 hd0 hne => mk_steps hx0 hd0 hne (.lst (SqL.of hP4.2) dps_ints) (.inl rfl) g fun H5 e5 hSt => ⟨rfl, fun r dr hxr hdr hner => mk_room hxr hdr hner z1 z60 hSt fun H6 e6 hR6 => ⟨rfl, ?_⟩⟩⟩
    have e36 := (e4.trans e5).trans e6
    have hS6 := hS3.ext e36
    have st6 := st3.ext e36
    have hP6 := (hP4.ext e5).ext e6
    clear hS0 hS1 hS3 st0 st1 st2 st3 x1 x2 x3 hD0 hD1 hD3 hP4 e4 e5 e6 e36 hSt hx0 hd0 hxr hdr ht
    refine ⟨_, rfl, _, rfl, a, b, ns, 10, rfl, hS6, nab, st6, by decide, by decide, fun nz H7 n0 n10 st7 x7 => ?_⟩
    obtain ⟨n, rfl⟩ : ∃ n : Nat, nz = (n : Int) := ⟨nz.toNat, by omega⟩
    have hP7 := pts_b st6 nDb x7 hP6
    have hR7 := rm_b st6 x7 hR6
    clear hS6 st6 hP6 hR6 x7
    generalize 1 + zn = z at z1 z10 z60 hP7 hR7
    have hgo := cuts_some (k := k) (n := n) g k0 z1
    refine ⟨_, rfl, _, rfl, t, D, z, bs, k, n, rfl, hP7, g, k0, by omega, z1, z60, by omega, fun hc H8 e8 => ?_, fun ps hps td H8 e8 htd => ?_⟩
    · have hP8 := hP7.ext e8
      have hR8 := hR7.ext e8
      refine ⟨_, rfl, _, rfl, t, _, 2, .int k, rfl, rfl, SqT.of hP8.1, rfl, _, rfl, r, z, bs, k, n, rfl, hR8, g, z1, z60, k0, by omega, by omega, fun _ H9 e9 => ?_, fun ps hps => by rw [hc] at hps; cases hps⟩
      refine ⟨_, rfl, .none, .none, oD_dp none, oD_dp none, rfl, rfl, _, rfl, iteF ?_⟩
      have hP9 := hP8.ext e9
      refine ⟨_, rfl, _, rfl, t, _, 2, .int k, rfl, rfl, SqT.of hP9.1, rfl, _, rfl, r, z, bs, k, (n : Int), rfl, hR8.ext e9, g, k0, by omega, by omega, by omega, ?_⟩
      have hf : decide ((n : Int) ≤ topN z bs k) = false := by
        cases hd : decide ((n : Int) ≤ topN z bs k) with
        | false => rfl
        | true => exact absurd hc (hgo.mp hd)
      refine ⟨_, rfl, rfl, ?_⟩
      rw [hf]
      exact ⟨rfl, _, rfl, iteNS rfl ⟨_, rfl, rfl, _, rfl, iteT (kk _)⟩⟩
    · have hne : cutsI z bs k n ≠ [] := fun hc => by rw [hc] at hps; cases hps
      have hT := hgo.mpr hne
      obtain ⟨hfine, hpl⟩ := cut_fine g k0 hps
      have hP8 := hP7.ext e8
      have hR8 := hR7.ext e8
      refine ⟨_, rfl, _, rfl, t, _, 2, .int k, rfl, rfl, SqT.of hP8.1, rfl, _, rfl, r, z, bs, k, n, rfl, hR8, g, z1, z60, k0, by omega, by omega, fun hc => absurd hc hne, fun ps' hps' t9 H9 e9 ht9 => ?_⟩
      rw [hps] at hps'
      cases hps'
      refine ⟨_, rfl, neD_tup (SqT.of ht9) (SqT.of (e9 _ _ htd)) (natsV_fl ps) (natsV_fl ps) ⟨_, rfl, ?_⟩⟩
      rw [eqv_same (natsV_fl ps)]
      refine iteF ?_
      have hP9 := hP8.ext e9
      have hR9 := hR8.ext e9
      have htd9 := e9 _ _ htd
      refine ⟨_, rfl, _, rfl, t, _, 2, .int k, rfl, rfl, SqT.of hP9.1, rfl, _, rfl, r, z, bs, k, (n : Int), rfl, hR9, g, k0, by omega, by omega, by omega, _, rfl, rfl, ?_⟩
      rw [hT]
      refine ⟨rfl, _, rfl, iteNS rfl ⟨_, rfl, rfl, _, rfl, iteF ?_⟩⟩
      clear hP7 hR7 hP8 hR8 htd ht9 e8 e9
      -- the rows that filled tells
      have hfr := fine_rows hfine
      have hfl : fillL z bs (ps.map fun (p : Nat) => PyData.int (p : Int)) = (0, told bs z) :: rowsL z bs 0 ps := by
        unfold fillL
        rw [hfr, Int.sub_zero]
      refine ⟨_, rfl, _, rfl, fun ys x Hx => Ext H9 Hx ∧ TupsAt pairV (fillL z bs (ps.map fun (p : Nat) => PyData.int (p : Int))) (ys ++ [x]) Hx, fun cs ad => ⟨.ref r, td, natsV ps, ps.map fun (p : Nat) => PyData.int (p : Int), rfl, .inr (SqT.of htd9), nats_dps ps, by rw [List.length_map]; omega, .inr ⟨r, z, bs, rfl, hR9, g, z1, z60, fun ys H' => Ext H9 H' ∧ TupsAt pairV (fillL z bs (ps.map fun (p : Nat) => PyData.int (p : Int))) ys H', ⟨⟨Ext.rfl', fun i v hv => nomatch hv⟩, fun ys H1 H2 h e => ⟨fun a o ha => e a o (h.1 a o ha) (.inl (by rw [ha]; exact fun z => nomatch z)), h.2.keep e⟩, fun ys x H1 H2 h => ?_, fun ys t H1 ps hp h ht => ⟨h.1, h.2.snoc hp ht⟩, fun ys H10 hl h _ G hG0 hG => ?_⟩, fun ys x H1 H2 h => ?_, fun hbad => ?_⟩⟩⟩
      · obtain ⟨rfl, h⟩ := h
        exact ⟨h, fun a o _ h => h, fun a h => h⟩
      · obtain ⟨e10, hts⟩ := h
        have e11 := Ext.upd (o := .lst ys) hG
        have hG11 : upd H10 G (.lst ys) G = some (.lst ys) := upd_same
        have hts11 := hts.keep (ExtP.of (H := H9) e11)
        generalize upd H10 G (.lst ys) = H11 at e11 hG11 hts11 ⊢
        rw [hfl] at hts11 hl
        have e911 := e10.trans e11
        have hP11 := hP9.ext e911
        refine ⟨_, rfl, _, rfl, t, D, z, bs, k, td, ps, rfl, hP11, e911 _ _ htd9, by omega, fun L2 ys2 H12 e12 hL20 hL2 hts2 hl2 => ?_⟩
        refine ⟨_, _, .lst (SqL.of (e12 _ _ hG11)) (pairs_dps (hts11.keep (ExtP.of (H := H9) e12)) hl), .lst (SqL.of hL2) (pairs_dps hts2 (by rw [hl2, List.length_cons, rowsL_len])), rows_shp, rows_shp, _, rfl, ?_⟩
        rw [shp_self rows_shp]
        refine iteF ?_
        have e912 := e911.trans e12
        have hP12 := hP9.ext e912
        have hR12 := hR9.ext e912
        have htd12 := e912 _ _ htd9
        clear hP9 hR9 htd9 hts hts11 hG11 hP11 e10 e11 e911 e12 e912 hts2 hL2
        -- a greater room, finer steps
        refine ⟨_, rfl, t, _, 0, .int z, rfl, rfl, SqT.of hP12.1, rfl, _, _, rfl, rfl, _, rfl, fun x1 d1 hx1 hd1 hne1 => mk_steps hx1 hd1 hne1 (.lst (SqL.of hP12.2) dps_ints) (.inl rfl) g fun H13 e13 hSt1 => ⟨rfl, fun r1 dr1 hxr1 hdr1 hner1 => mk_room hxr1 hdr1 hner1 (show 1 ≤ z + 1 by omega) (by omega) hSt1 fun H14 e14 hR1 => ⟨rfl, ?_⟩⟩⟩
        have e1214 := e13.trans e14
        have hP14 := hP12.ext e1214
        have hR14 := hR12.ext e1214
        have htd14 := e1214 _ _ htd12
        clear hP12 hR12 htd12 e13 e14 e1214 hSt1 hx1 hd1 hxr1 hdr1
        obtain ⟨y, hy, _⟩ := id hu.2.2.2
        have hu2 := hu.snoc hy (Int.le_refl 0) (by decide)
        have g2 := hu2.ok (show i + 1 ≤ 3 by omega)
        obtain ⟨qa, ha, hal⟩ := cutsI_mono (z' := z) (bs' := bs) (k' := k + 1) (rN_mono g (Int.le_refl z) (show k ≤ k + 1 by omega) fun b hb => hb) hps
        obtain ⟨qb, hb, hbl⟩ := cutsI_mono (z' := z + 1) (bs' := bs) (k' := k) (rN_mono g (show z ≤ z + 1 by omega) (Int.le_refl k) fun b hb => hb) hps
        obtain ⟨qc, hc, hcl⟩ := cutsI_mono (z' := z) (bs' := bs ++ [y + 1 + 0]) (k' := k) (rN_mono g2 (Int.le_refl z) (Int.le_refl k) fun b hb => List.mem_append_left _ hb) hps
        refine ⟨_, rfl, t, _, 0, .int z, rfl, rfl, SqT.of hP14.1, rfl, _, rfl, _, rfl, 1, rfl, D, bs.map V.int, -1, .int y, rfl, rfl, SqL.of hP14.2, last_at (by rw [List.getLast?_map, hy]; rfl), _, _, rfl, rfl, by show 1 ≤ sizeLine; decide, fun l1 hl1 => ?_⟩
        have e15 := Ext.upd (o := .lst [V.int (y + 1)]) hl1
        refine ⟨D, l1, _, _, rfl, rfl, e15 _ _ hP14.2, upd_same, ?_, fun l2 hl2 x2 d2 hx2 hd2 hne2 => ?_⟩
        · rw [List.length_map, hu.1]
          exact Nat.le_trans (show i + 1 + 1 ≤ 10 by omega) (by decide)
        have e16 := e15.trans (Ext.upd (o := .lst (bs.map V.int ++ [V.int (y + 1)])) hl2)
        have hl2' : upd (upd H14 l1 (.lst [V.int (y + 1)])) l2 (.lst (bs.map V.int ++ [V.int (y + 1)])) l2 = some (.lst ((bs ++ [y + 1 + 0]).map V.int)) := by
          rw [upd_same, List.map_append, Int.add_zero]
          rfl
        refine mk_steps hx2 hd2 hne2 (.lst (SqL.of hl2') dps_ints) (.inl rfl) g2 fun H17 e17 hSt2 => ⟨rfl, fun r2 dr2 hxr2 hdr2 hner2 => mk_room hxr2 hdr2 hner2 z1 z60 hSt2 fun H18 e18 hR2 => ⟨rfl, ?_⟩⟩
        have e1418 := (e16.trans e17).trans e18
        have hP18 := hP14.ext e1418
        have hR18 := hR14.ext e1418
        have hR1' := hR1.ext e1418
        have htd18 := e1418 _ _ htd14
        clear hP14 hR14 hR1 htd14 e15 e16 e17 e18 e1418 hSt2 hx2 hd2 hxr2 hdr2 hl1 hl2 hl2'
        -- told by each
        refine ⟨_, rfl, _, rfl, t, _, 2, .int k, rfl, rfl, SqT.of hP18.1, rfl, _, _, rfl, rfl, _, rfl, r, z, bs, k + 1, n, rfl, hR18, g, z1, z60, by omega, by omega, by omega, fun hz => (by rw [hz] at ha; cases ha), fun q1 hq1 t1 H19 e19 ht1 => ?_⟩
        rw [ha] at hq1
        cases hq1
        have hP19 := hP18.ext e19
        refine ⟨_, rfl, _, rfl, t, _, 2, .int k, rfl, rfl, SqT.of hP19.1, rfl, _, rfl, r1, z + 1, bs, k, n, rfl, hR1'.ext e19, g, by omega, by omega, by omega, by omega, by omega, fun hz => (by rw [hz] at hb; cases hb), fun q2 hq2 t2 H20 e20 ht2 => ⟨by show 2 ≤ sizeLine; decide, fun O hO => ?_⟩⟩
        rw [hb] at hq2
        cases hq2
        have e21 := Ext.upd (o := .lst [V.ref t1, V.ref t2]) hO
        have hO21 : upd H20 O (.lst [V.ref t1, V.ref t2]) O = some (.lst [V.ref t1, V.ref t2]) := upd_same
        have ht1' := (e20.trans e21) _ _ ht1
        have ht2' := e21 _ _ ht2
        generalize upd H20 O (.lst [V.ref t1, V.ref t2]) = H21 at e21 hO21 ht1' ht2' ⊢
        have e1821 := (e19.trans e20).trans e21
        have hP21 := hP18.ext e1821
        refine ⟨_, rfl, .inl ⟨rfl, _, SqL.of hO21⟩, _, rfl, _, rfl, t, _, 2, .int k, rfl, rfl, SqT.of hP21.1, rfl, _, rfl, r2, z, bs ++ [y + 1 + 0], k, n, rfl, hR2.ext e1821, g2, z1, z60, by omega, by omega, by omega, fun hz => (by rw [hz] at hc; cases hc), fun q3 hq3 t3 H22 e22 ht3 => ?_⟩
        rw [hc] at hq3
        cases hq3
        have hO22 := e22 _ _ hO21
        refine ⟨O, _, _, rfl, rfl, hO22, by show 2 < sizeLine; decide, ?_⟩
        have kt : ∀ u xs, H22 u = some (.tup xs) → upd H22 O (.lst ([V.ref t1, V.ref t2] ++ [V.ref t3])) u = some (.tup xs) := fun u xs hu => by
          rw [upd_ne (fun e => by rw [e, hO22] at hu; cases hu)]
          exact hu
        have a1 := kt _ _ (e22 _ _ ht1')
        have a2 := kt _ _ (e22 _ _ ht2')
        have a3 := kt _ _ ht3
        have ad := kt _ _ ((e1821.trans e22) _ _ htd18)
        have hO23 : upd H22 O (.lst ([V.ref t1, V.ref t2] ++ [V.ref t3])) O = some (.lst [V.ref t1, V.ref t2, V.ref t3]) := upd_same
        generalize upd H22 O (.lst ([V.ref t1, V.ref t2] ++ [V.ref t3])) = H23 at a1 a2 a3 ad hO23 ⊢
        have hall : ∀ (m : Nat) (x : V), [V.ref t1, V.ref t2, V.ref t3][m]? = some x → ∃ tx q, x = .ref tx ∧ H23 tx = some (.tup (natsV q)) ∧ q.length ≤ ps.length := fun m x hx => by
          rcases m with _ | _ | _ | m
          · cases hx; exact ⟨t1, _, rfl, a1, hal⟩
          · cases hx; exact ⟨t2, _, rfl, a2, hbl⟩
          · cases hx; exact ⟨t3, _, rfl, a3, hcl⟩
          · cases hx
        refine ⟨_, rfl, O, rfl, ⟨_, SqL.of hO23⟩, fun X hX => ?_⟩
        refine lc_list (xs := [V.ref t1, V.ref t2, V.ref t3]) (fun m H' => Ext H23 H' ∧ H' X = some (.lst ((List.replicate m true).map V.bl))) ⟨Ext.upd hX, upd_same⟩ (fun m H' _ pv => SqL.of (pv.1 _ _ hO23)) (fun m x H24 hx pv => ?_) (fun H24 pv => ?_)
        · obtain ⟨e24, hX24⟩ := pv
          have hm3 : m < 3 := (List.getElem?_eq_some_iff.mp hx).1
          obtain ⟨tx, q, rfl, htx, hql⟩ := hall m x hx
          refine ⟨rfl, _, rfl, rfl, _, rfl, iteT ⟨_, rfl, tx, _, rfl, .inr (SqT.of (e24 _ _ htx)), _, rfl, td, _, rfl, .inr (SqT.of (e24 _ _ ad)), _, _, rfl, rfl, _, hX24, ?_, ext_mut e24 hX, ?_⟩⟩
          · rw [List.length_map, List.length_replicate]
            exact Nat.lt_of_lt_of_le hm3 (by decide)
          · dsimp only
            rw [natsV_len, natsV_len, decide_eq_true (show (q.length : Int) ≤ (ps.length : Int) by omega), upd_same, List.replicate_succ', List.map_append]
            rfl
        · obtain ⟨e24, hX24⟩ := pv
          refine ⟨X, _, rfl, SqL.of hX24, ?_⟩
          exact kk _
      · obtain ⟨rfl, _⟩ := h
        exact ⟨id, id, id, id⟩
      · rw [hfr] at hbad
        cases hbad
end
end K08

set_option Elab.async false
set_option maxRecDepth 100000
set_option maxHeartbeats 4000000
namespace K70
open PySem PySem.Spec PyProof.Rows L2 K08
section
variable {P : Program} {w : World} {K : PySem.W.Frag} {mg : Str → Option Value} {base : Heap} {A : Ad}
theorem kit_ref {B C : Addr} {b : Bool} (i : PySem.W.isClsIn K C = true) (t : PySem.W.typeIn K (.ref C) = some (.type "type")) (s : PySem.W.subIn K (.ref B) (.ref C) = some b) (ss : PySem.W.subIn K (.ref B) (.ref B) = some true) : PySem.W.kitOne K (.ref B) (.ref C) = some b := by
  by_cases h : B = C
  · subst h
    rw [ss] at s
    cases s
    exact if_pos (beq_self_eq_true _)
  · have e : ((PySem.W.clsIn K C).isSome && PySem.W.typeIn K (.ref C) == some (.type "type")) = true := by
      have h1 : (PySem.W.clsIn K C).isSome = true := i
      rw [h1, t]
      rfl
    show (if (Value.ref B == Value.ref C) = true then some true else if ((PySem.W.clsIn K C).isSome && PySem.W.typeIn K (.ref C) == some (.type "type")) = true then PySem.W.subIn K (.ref B) (.ref C) else none) = some b
    rw [if_pos e]
    have hne : ¬ ((Value.ref B == Value.ref C) = true) := fun z => by
      have z' := eq_of_beq z
      injection z' with z'
      exact h z'
    rw [if_neg hne]
    exact s
theorem exm_ref {B C : Addr} {b : Bool} (x : PySem.W.subIn K (.ref C) (.type "BaseException") = some true) (i : PySem.W.isClsIn K C = true) (t : PySem.W.typeIn K (.ref C) = some (.type "type")) (s : PySem.W.subIn K (.ref B) (.ref C) = some b) : PySem.W.exmOne K (.ref B) (.ref C) = some b := by
  unfold PySem.W.exmOne PySem.W.kitCls
  have i' : (PySem.W.clsIn K C).isSome = true := i
  rw [x]
  dsimp only
  rw [i', t, s]
  rfl
theorem ve_one {W : Addr} : PySem.HandSPX.refsVE [.ref W, .type "ValueError", .type "Exception", .type "BaseException", .type "object"] = true := by
  show PySem.HandSPX.refsVE [.type "ValueError", .type "Exception", .type "BaseException", .type "object"] = true
  decide +kernel
theorem law_ok (T : Txt K mg A) (D_is_integer : DefAt K mg "is_integer" s_is_integer pm_is_integer) (D_is_between : DefAt K mg "is_between" s_is_between pm_is_between) (D_is_list : DefAt K mg "is_list" s_is_list pm_is_list) (D_is_list_of : DefAt K mg "is_list_of" s_is_list_of pm_is_list_of) (D_lesser : DefAt K mg "lesser" s_lesser pm_lesser) (D_told_of : DefAt K mg "told_of" s_told_of pm_told_of) (D_are_under : DefAt K mg "are_under" s_are_under pm_are_under) (D_check_cap : DefAt K mg "check_cap" s_check_cap pm_check_cap) (D_check_room : DefAt K mg "check_room" s_check_room pm_check_room) (D_check_length : DefAt K mg "check_length" s_check_length pm_check_length) (D_check_goods : DefAt K mg "check_goods" s_check_goods pm_check_goods) (D_goes : DefAt K mg "goes" s_goes pm_goes) (D_reaches_of : DefAt K mg "reaches_of" s_reaches_of pm_reaches_of) (D_told_cut : DefAt K mg "told_cut" s_told_cut pm_told_cut) (D_cuts : DefAt K mg "cuts" s_cuts pm_cuts) (D_needs_of : DefAt K mg "needs_of" s_needs_of pm_needs_of) (D_next_pieces : DefAt K mg "next_pieces" s_next_pieces pm_next_pieces) (D_filled : DefAt K mg "filled" s_filled pm_filled) (D__law_start : DefAt K mg "_law_start" s__law_start pm__law_start) (D__law_draw : DefAt K mg "_law_draw" s__law_draw pm__law_draw) (D__law_rising : DefAt K mg "_law_rising" s__law_rising pm__law_rising) (D__law_told : DefAt K mg "_law_told" s__law_told pm__law_told) (D__law_cuts : DefAt K mg "_law_cuts" s__law_cuts pm__law_cuts) (D__law_first : DefAt K mg "_law_first" s__law_first pm__law_first) (D__law_rows : DefAt K mg "_law_rows" s__law_rows pm__law_rows)
    (M_Steps_init : MethAt K A.Steps "__init__" "Steps.__init__" s_Steps_init pm_Steps_init) (M_Steps_call : MethAt K A.Steps "__call__" "Steps.__call__" s_Steps_call pm_Steps_call) (M_Steps_len : MethAt K A.Steps "__len__" "Steps.__len__" s_Steps_len pm_Steps_len) (M_Steps_contains : MethAt K A.Steps "__contains__" "Steps.__contains__" s_Steps_contains pm_Steps_contains) (M_Steps_le : MethAt K A.Steps "__le__" "Steps.__le__" s_Steps_le pm_Steps_le) (M_Steps_add : MethAt K A.Steps "__add__" "Steps.__add__" s_Steps_add pm_Steps_add) (M_Steps_eq : MethAt K A.Steps "__eq__" "Steps.__eq__" s_Steps_eq pm_Steps_eq) (M_Room_init : MethAt K A.Room "__init__" "Room.__init__" s_Room_init pm_Room_init) (M_Room_told : MethAt K A.Room "told" "Room.told" s_Room_told pm_Room_told) (M_Room_reach : MethAt K A.Room "reach" "Room.reach" s_Room_reach pm_Room_reach) (M_Room_top : MethAt K A.Room "top" "Room.top" s_Room_top pm_Room_top) (M_Room_le : MethAt K A.Room "__le__" "Room.__le__" s_Room_le pm_Room_le) (M_Room_eq : MethAt K A.Room "__eq__" "Room.__eq__" s_Room_eq pm_Room_eq) (m1_Steps : PySem.W.makesIn K A.Steps = true) (m2_Steps : PySem.W.keepIn K (.ref A.Steps) = true) (m1_Room : PySem.W.makesIn K A.Room = true) (m2_Room : PySem.W.keepIn K (.ref A.Room) = true)
    {f : Addr} {fd : FuncData} (F : Fun K "law" "law" s_law f fd) : FnOk P w K mg base CX0 15 f fd pm_law (spLaw K) := by
  have X_BadPart : XCls P w K mg base "BadPart" "part" A.BadPart := T.BadPart.cls fun _ _ F => ok_x_BadPart F T
  have X_BadNumber : XCls P w K mg base "BadNumber" "number" A.BadNumber := T.BadNumber.cls fun _ _ F => ok_x_BadNumber F T
  have X_BadSteps : XCls P w K mg base "BadSteps" "index" A.BadSteps := T.BadSteps.cls fun _ _ F => ok_x_BadSteps F T
  have X_BadPiece : XCls P w K mg base "BadPiece" "index" A.BadPiece := T.BadPiece.cls fun _ _ F => ok_x_BadPiece F T
  have X_TooMany : OCls P w K mg base "TooMany" "limit" A.TooMany := T.TooMany.cls fun _ _ F => ok_x_TooMany F T

  have O_is_integer : Own P w K mg base CX0 "is_integer" 1 pm_is_integer (spInteger K) := D_is_integer.own fun f fd F => ok_integer F T
  have O_is_between : Own P w K mg base CX0 "is_between" 2 pm_is_between (spBetween K) := D_is_between.own fun f fd F => ok_between F O_is_integer
  have O_is_list : Own P w K mg base CX0 "is_list" 1 pm_is_list (spIsList K) := D_is_list.own fun f fd F => ok_isList F T
  have O_is_list_of : Own P w K mg base CX0 "is_list_of" 2 pm_is_list_of (spListOf K) := D_is_list_of.own fun f fd F => ok_listOf F T O_is_list
  have O_lesser : Own P w K mg base CX0 "lesser" 1 pm_lesser spLesser := D_lesser.own fun f fd F => ok_lesser F T
  have O_told_of : Own P w K mg base CX0 "told_of" 1 pm_told_of (spToldOf K) := D_told_of.own fun f fd F => ok_toldOf F T
  have O_are_under : Own P w K mg base CX0 "are_under" 2 pm_are_under (spUnder K) := D_are_under.own fun f fd F => ok_under F T O_told_of
  have O_Steps : OwnC P w K mg base (L2.CX P w) "Steps" A.Steps 3 pm_Steps_init (spStepsInit K A) := M_Steps_init.cls (fun f fd F => ok_stepsInit F T O_is_list_of O_is_between X_BadSteps) m1_Steps m2_Steps T.Steps.gC
  have O_Steps_call : OwnM P w K mg base (L2.CX P w) A.Steps "__call__" 3 pm_Steps_call (spCall K A) := M_Steps_call.own fun f fd F => ok_call F T O_is_integer O_told_of X_BadNumber
  have O_Steps_len : OwnM P w K mg base CX0 A.Steps "__len__" 1 pm_Steps_len (spLen K A) := M_Steps_len.own fun f fd F => ok_len F T
  have O_Steps_contains : OwnM P w K mg base CX0 A.Steps "__contains__" 2 pm_Steps_contains (spIn K A) := M_Steps_contains.own fun f fd F => ok_in F T O_is_integer
  have O_Steps_le : OwnM P w K mg base CX0 A.Steps "__le__" 3 pm_Steps_le (spLe K A) := M_Steps_le.own fun f fd F => ok_le F T O_are_under
  have O_Steps_eq : OwnM P w K mg base CX0 A.Steps "__eq__" 1 pm_Steps_eq (spEq K A) := M_Steps_eq.own fun f fd F => ok_eq F T
  have O_Steps_add : OwnM P w K mg base (L2.CX P w) A.Steps "__add__" 5 pm_Steps_add (spAdd K A) := M_Steps_add.own fun f fd F => ok_add F T O_is_between O_Steps X_BadNumber X_TooMany
  have O_check_cap : Own P w K mg base (L2.CX P w) "check_cap" 3 pm_check_cap (spCheckCap K A) := D_check_cap.own fun f fd F => ok_checkCap F T O_is_between X_BadNumber
  have O_Room : OwnC P w K mg base (L2.CX P w) "Room" A.Room 3 pm_Room_init (spRoomInit K A) := M_Room_init.cls (fun f fd F => ok_roomInit F T O_is_between X_BadPart) m1_Room m2_Room T.Room.gC
  have O_Room_told : OwnM P w K mg base (L2.CX P w) A.Room "told" 3 pm_Room_told (spTold K A) := M_Room_told.own fun f fd F => ok_told F T O_is_between O_told_of X_BadNumber
  have O_Room_reach : OwnM P w K mg base (L2.CX P w) A.Room "reach" 4 pm_Room_reach (spReach K A) := M_Room_reach.own fun f fd F => ok_reach F T O_Room_told O_check_cap O_lesser
  have O_Room_top : OwnM P w K mg base (L2.CX P w) A.Room "top" 4 pm_Room_top (spTop K A) := M_Room_top.own fun f fd F => ok_top F T O_check_cap O_lesser
  have O_Room_le : OwnM P w K mg base CX0 A.Room "__le__" 4 pm_Room_le (spRmLe K A) := M_Room_le.own fun f fd F => ok_rmle F T O_Steps_le
  have O_Room_eq : OwnM P w K mg base CX0 A.Room "__eq__" 2 pm_Room_eq (spRmEq K A) := M_Room_eq.own fun f fd F => ok_rmeq F T O_Steps_eq
  have O__law_start : Own P w K mg base CX0 "_law_start" 1 pm__law_start (spStart K) := D__law_start.own fun f fd F => ok_start F T
  have O__law_draw : Own P w K mg base CX0 "_law_draw" 1 pm__law_draw (spDrawB K) := D__law_draw.own fun f fd F => ok_draw F T
  have O__law_told : Own P w K mg base CX0 "_law_told" 1 pm__law_told (spLTold K) := D__law_told.own fun f fd F => ok_ltold F
  have O_check_room : Own P w K mg base (L2.CX P w) "check_room" 3 pm_check_room (spCkRoom K A) := D_check_room.own fun f fd F => ok_ckRoom F T X_BadPart
  have O_check_room_1 : Own P w K mg base (L2.CX P w) "check_room" 3 pm_check_room (spCkRoomE K A) := D_check_room.own fun f fd F => ok_ckRoomE F T X_BadPart
  have O_check_length : Own P w K mg base (L2.CX P w) "check_length" 3 pm_check_length (spCkLen K) := D_check_length.own fun f fd F => ok_ckLen F T O_is_between X_BadNumber
  have O_check_goods : Own P w K mg base (L2.CX P w) "check_goods" 4 pm_check_goods (spGoods K A) := D_check_goods.own fun f fd F => ok_goods F T O_check_room O_check_cap O_check_length
  have O_goes : Own P w K mg base (L2.CX P w) "goes" 5 pm_goes (spGoes K A) := D_goes.own fun f fd F => ok_goes F T O_check_goods O_Room_top
  have O_reaches_of : Own P w K mg base (L2.CX P w) "reaches_of" 5 pm_reaches_of (spReaches K A) := D_reaches_of.own fun f fd F => ok_reaches F T O_Room_reach
  have O_needs_of : Own P w K mg base CX0 "needs_of" 2 pm_needs_of (spNeeds K) := D_needs_of.own fun f fd F => ok_needs F T
  have O_next_pieces : Own P w K mg base CX0 "next_pieces" 2 pm_next_pieces (spNext K) := D_next_pieces.own fun f fd F => ok_next F T
  have O_cuts : OwnG3 P w K mg base "cuts" 6 pm_cuts (spCuts K A) := D_cuts.ownG3 fun f fd F => ok_cuts F T O_check_goods O_goes O_reaches_of O_needs_of O_next_pieces
  have O_cutsL : OwnG P w K mg base "cuts" 6 pm_cuts (spCutsL K A) := D_cuts.ownG fun f fd F => ok_cutsL F T O_check_goods O_goes O_reaches_of O_needs_of O_next_pieces
  have O_told_cut : Own P w K mg base (L2.CX P w) "told_cut" 8 pm_told_cut (spTold1 K A) := D_told_cut.own fun f fd F => ok_toldCut F T O_cuts
  have O_filled : OwnG3 P w K mg base "filled" 5 pm_filled (spFilled K A) := D_filled.ownG3 fun f fd F => ok_filled F T O_check_room_1 O_Room_told O_is_between X_BadPiece
  have O__law_rising : Own P w K mg base CX0 "_law_rising" 2 pm__law_rising (spRise K) := D__law_rising.own fun f fd F => ok_rising F T O__law_draw
  have O__law_cuts : Own P w K mg base CX0 "_law_cuts" 13 pm__law_cuts (spCA K) := D__law_cuts.own fun f fd F => ok_cutsA F T D__law_cuts O__law_told
  have O__law_first : Own P w K mg base CX0 "_law_first" 14 pm__law_first (spFirst K) := D__law_first.own fun f fd F => ok_first F T O__law_cuts
  have O__law_rows : Own P w K mg base CX0 "_law_rows" 2 pm__law_rows spRows := D__law_rows.own fun f fd F => ok_rows F T O__law_told
  exact ok_law F T O__law_start O__law_draw O__law_rising O_Steps O_Room O__law_first O_told_cut O_goes O_filled O__law_rows
end
theorem all_mk {P : Program} {w : World} {K : PySem.W.Frag} {h : Heap} {mg : Str → Option Value} {fa   ABadPart ABadNumber ABadSteps ABadPiece ATooMany AWholeError ASteps ARoom f_is_integer f_is_between f_is_list f_is_list_of f_lesser f_told_of f_are_under f_check_cap f_check_room f_check_length f_check_goods f_goes f_reaches_of f_told_cut f_cuts f_needs_of f_next_pieces f_filled f__law_start f__law_draw f__law_rising f__law_told f__law_cuts f__law_first f__law_rows f_law f_BadPart_init f_BadNumber_init f_BadSteps_init f_BadPiece_init f_TooMany_init f_Steps_init f_Steps_call f_Steps_len f_Steps_contains f_Steps_le f_Steps_add f_Steps_eq f_Room_init f_Room_told f_Room_reach f_Room_top f_Room_le f_Room_eq : Addr} (X : K.In h) (G : h.Ns mainGlobals mg) (hfa : mg "law" = some (.ref fa))
    {od_is_integer an_is_integer od_is_between an_is_between od_is_list an_is_list od_is_list_of an_is_list_of od_lesser an_lesser od_told_of an_told_of od_are_under an_are_under od_check_cap an_check_cap od_check_room an_check_room od_check_length an_check_length od_check_goods an_check_goods od_goes an_goes od_reaches_of an_reaches_of od_told_cut an_told_cut od_cuts an_cuts od_needs_of an_needs_of od_next_pieces an_next_pieces od_filled an_filled od__law_start an__law_start od__law_draw an__law_draw od__law_rising an__law_rising od__law_told an__law_told od__law_cuts an__law_cuts od__law_first an__law_first od__law_rows an__law_rows od_law an_law od_BadPart_init an_BadPart_init od_BadNumber_init an_BadNumber_init od_BadSteps_init an_BadSteps_init od_BadPiece_init an_BadPiece_init od_TooMany_init an_TooMany_init od_Steps_init an_Steps_init od_Steps_call an_Steps_call od_Steps_len an_Steps_len od_Steps_contains an_Steps_contains od_Steps_le an_Steps_le od_Steps_add an_Steps_add od_Steps_eq an_Steps_eq od_Room_init an_Room_init od_Room_told an_Room_told od_Room_reach an_Room_reach od_Room_top an_Room_top od_Room_le an_Room_le od_Room_eq an_Room_eq : Option Addr} {sl_is_integer sl_is_between sl_is_list sl_is_list_of sl_lesser sl_told_of sl_are_under sl_check_cap sl_check_room sl_check_length sl_check_goods sl_goes sl_reaches_of sl_told_cut sl_cuts sl_needs_of sl_next_pieces sl_filled sl__law_start sl__law_draw sl__law_rising sl__law_told sl__law_cuts sl__law_first sl__law_rows sl_law sl_BadPart_init sl_BadNumber_init sl_BadSteps_init sl_BadPiece_init sl_TooMany_init sl_Steps_init sl_Steps_call sl_Steps_len sl_Steps_contains sl_Steps_le sl_Steps_add sl_Steps_eq sl_Room_init sl_Room_told sl_Room_reach sl_Room_top sl_Room_le sl_Room_eq : Array (Option Value)} {oc_is_integer kV_is_integer dc_is_integer pm_is_integer_ cd_is_integer ct_is_integer oc_is_between kV_is_between dc_is_between pm_is_between_ cd_is_between ct_is_between oc_is_list kV_is_list dc_is_list pm_is_list_ cd_is_list ct_is_list oc_is_list_of kV_is_list_of dc_is_list_of pm_is_list_of_ cd_is_list_of ct_is_list_of oc_lesser kV_lesser dc_lesser pm_lesser_ cd_lesser ct_lesser oc_told_of kV_told_of dc_told_of pm_told_of_ cd_told_of ct_told_of oc_are_under kV_are_under dc_are_under pm_are_under_ cd_are_under ct_are_under oc_check_cap kV_check_cap dc_check_cap pm_check_cap_ cd_check_cap ct_check_cap oc_check_room kV_check_room dc_check_room pm_check_room_ cd_check_room ct_check_room oc_check_length kV_check_length dc_check_length pm_check_length_ cd_check_length ct_check_length oc_check_goods kV_check_goods dc_check_goods pm_check_goods_ cd_check_goods ct_check_goods oc_goes kV_goes dc_goes pm_goes_ cd_goes ct_goes oc_reaches_of kV_reaches_of dc_reaches_of pm_reaches_of_ cd_reaches_of ct_reaches_of oc_told_cut kV_told_cut dc_told_cut pm_told_cut_ cd_told_cut ct_told_cut oc_cuts kV_cuts dc_cuts pm_cuts_ cd_cuts ct_cuts oc_needs_of kV_needs_of dc_needs_of pm_needs_of_ cd_needs_of ct_needs_of oc_next_pieces kV_next_pieces dc_next_pieces pm_next_pieces_ cd_next_pieces ct_next_pieces oc_filled kV_filled dc_filled pm_filled_ cd_filled ct_filled oc__law_start kV__law_start dc__law_start pm__law_start_ cd__law_start ct__law_start oc__law_draw kV__law_draw dc__law_draw pm__law_draw_ cd__law_draw ct__law_draw oc__law_rising kV__law_rising dc__law_rising pm__law_rising_ cd__law_rising ct__law_rising oc__law_told kV__law_told dc__law_told pm__law_told_ cd__law_told ct__law_told oc__law_cuts kV__law_cuts dc__law_cuts pm__law_cuts_ cd__law_cuts ct__law_cuts oc__law_first kV__law_first dc__law_first pm__law_first_ cd__law_first ct__law_first oc__law_rows kV__law_rows dc__law_rows pm__law_rows_ cd__law_rows ct__law_rows oc_law kV_law dc_law pm_law_ cd_law ct_law oc_BadPart_init kV_BadPart_init dc_BadPart_init pm_BadPart_init_ cd_BadPart_init ct_BadPart_init oc_BadNumber_init kV_BadNumber_init dc_BadNumber_init pm_BadNumber_init_ cd_BadNumber_init ct_BadNumber_init oc_BadSteps_init kV_BadSteps_init dc_BadSteps_init pm_BadSteps_init_ cd_BadSteps_init ct_BadSteps_init oc_BadPiece_init kV_BadPiece_init dc_BadPiece_init pm_BadPiece_init_ cd_BadPiece_init ct_BadPiece_init oc_TooMany_init kV_TooMany_init dc_TooMany_init pm_TooMany_init_ cd_TooMany_init ct_TooMany_init oc_Steps_init kV_Steps_init dc_Steps_init pm_Steps_init_ cd_Steps_init ct_Steps_init oc_Steps_call kV_Steps_call dc_Steps_call pm_Steps_call_ cd_Steps_call ct_Steps_call oc_Steps_len kV_Steps_len dc_Steps_len pm_Steps_len_ cd_Steps_len ct_Steps_len oc_Steps_contains kV_Steps_contains dc_Steps_contains pm_Steps_contains_ cd_Steps_contains ct_Steps_contains oc_Steps_le kV_Steps_le dc_Steps_le pm_Steps_le_ cd_Steps_le ct_Steps_le oc_Steps_add kV_Steps_add dc_Steps_add pm_Steps_add_ cd_Steps_add ct_Steps_add oc_Steps_eq kV_Steps_eq dc_Steps_eq pm_Steps_eq_ cd_Steps_eq ct_Steps_eq oc_Room_init kV_Room_init dc_Room_init pm_Room_init_ cd_Room_init ct_Room_init oc_Room_told kV_Room_told dc_Room_told pm_Room_told_ cd_Room_told ct_Room_told oc_Room_reach kV_Room_reach dc_Room_reach pm_Room_reach_ cd_Room_reach ct_Room_reach oc_Room_top kV_Room_top dc_Room_top pm_Room_top_ cd_Room_top ct_Room_top oc_Room_le kV_Room_le dc_Room_le pm_Room_le_ cd_Room_le ct_Room_le oc_Room_eq kV_Room_eq dc_Room_eq pm_Room_eq_ cd_Room_eq ct_Room_eq : Value} {t_MOST_BOUNDS t_MOST_UNITS t_MOST_CAP t_MOST_LENGTH : Tok}
    {xBadPart_nm xBadPart_q : Str} {xBadPart_N : Addr} {xBadPart_bs : List Value} {xBadPart_sn : List Str} {xBadPart_sub : List Value} {xBadPart_ab : Bool} {xBadPart_col : Option Bool} {xBadPart_dd : Option Addr} {xBadPart_m0 xBadPart_m1 xBadPart_m2 xBadPart_m3 xBadPart_m5 : Option Value}
    {xBadNumber_nm xBadNumber_q : Str} {xBadNumber_N : Addr} {xBadNumber_bs : List Value} {xBadNumber_sn : List Str} {xBadNumber_sub : List Value} {xBadNumber_ab : Bool} {xBadNumber_col : Option Bool} {xBadNumber_dd : Option Addr} {xBadNumber_m0 xBadNumber_m1 xBadNumber_m2 xBadNumber_m3 xBadNumber_m5 : Option Value}
    {xBadSteps_nm xBadSteps_q : Str} {xBadSteps_N : Addr} {xBadSteps_bs : List Value} {xBadSteps_sn : List Str} {xBadSteps_sub : List Value} {xBadSteps_ab : Bool} {xBadSteps_col : Option Bool} {xBadSteps_dd : Option Addr} {xBadSteps_m0 xBadSteps_m1 xBadSteps_m2 xBadSteps_m3 xBadSteps_m5 : Option Value}
    {xBadPiece_nm xBadPiece_q : Str} {xBadPiece_N : Addr} {xBadPiece_bs : List Value} {xBadPiece_sn : List Str} {xBadPiece_sub : List Value} {xBadPiece_ab : Bool} {xBadPiece_col : Option Bool} {xBadPiece_dd : Option Addr} {xBadPiece_m0 xBadPiece_m1 xBadPiece_m2 xBadPiece_m3 xBadPiece_m5 : Option Value}
    {xTooMany_nm xTooMany_q : Str} {xTooMany_N : Addr} {xTooMany_bs : List Value} {xTooMany_sn : List Str} {xTooMany_sub : List Value} {xTooMany_ab : Bool} {xTooMany_col : Option Bool} {xTooMany_dd : Option Addr} {xTooMany_m0 xTooMany_m1 xTooMany_m2 xTooMany_m3 xTooMany_m5 : Option Value}
    (g_BadPart : PySem.W.nsIn K mainGlobals "BadPart" = some (some (.ref ABadPart)))
    (g_BadNumber : PySem.W.nsIn K mainGlobals "BadNumber" = some (some (.ref ABadNumber)))
    (g_BadSteps : PySem.W.nsIn K mainGlobals "BadSteps" = some (some (.ref ABadSteps)))
    (g_BadPiece : PySem.W.nsIn K mainGlobals "BadPiece" = some (some (.ref ABadPiece)))
    (g_TooMany : PySem.W.nsIn K mainGlobals "TooMany" = some (some (.ref ATooMany)))
    (g_WholeError : PySem.W.nsIn K mainGlobals "WholeError" = some (some (.ref AWholeError)))
    (g_Steps : PySem.W.nsIn K mainGlobals "Steps" = some (some (.ref ASteps)))
    (g_Room : PySem.W.nsIn K mainGlobals "Room" = some (some (.ref ARoom)))
    (a_is_integer : PySem.W.nsIn K mainGlobals "is_integer" = some (some (.ref f_is_integer)))
    (l_is_integer : K.lookup f_is_integer = some ⟨oc_is_integer, od_is_integer, .func (PySem.W.fnOf "is_integer" "is_integer" (defArgs s_is_integer) (defBody s_is_integer) (defScope s_is_integer) .none kV_is_integer dc_is_integer pm_is_integer_ an_is_integer cd_is_integer ct_is_integer), sl_is_integer⟩)
    (c_is_integer : PySem.W.codeIn K cd_is_integer "is_integer" = true)
    (k_is_integer : PySem.W.keepIn K (.ref f_is_integer) = true)
    (a_is_between : PySem.W.nsIn K mainGlobals "is_between" = some (some (.ref f_is_between)))
    (l_is_between : K.lookup f_is_between = some ⟨oc_is_between, od_is_between, .func (PySem.W.fnOf "is_between" "is_between" (defArgs s_is_between) (defBody s_is_between) (defScope s_is_between) .none kV_is_between dc_is_between pm_is_between_ an_is_between cd_is_between ct_is_between), sl_is_between⟩)
    (c_is_between : PySem.W.codeIn K cd_is_between "is_between" = true)
    (k_is_between : PySem.W.keepIn K (.ref f_is_between) = true)
    (a_is_list : PySem.W.nsIn K mainGlobals "is_list" = some (some (.ref f_is_list)))
    (l_is_list : K.lookup f_is_list = some ⟨oc_is_list, od_is_list, .func (PySem.W.fnOf "is_list" "is_list" (defArgs s_is_list) (defBody s_is_list) (defScope s_is_list) .none kV_is_list dc_is_list pm_is_list_ an_is_list cd_is_list ct_is_list), sl_is_list⟩)
    (c_is_list : PySem.W.codeIn K cd_is_list "is_list" = true)
    (k_is_list : PySem.W.keepIn K (.ref f_is_list) = true)
    (a_is_list_of : PySem.W.nsIn K mainGlobals "is_list_of" = some (some (.ref f_is_list_of)))
    (l_is_list_of : K.lookup f_is_list_of = some ⟨oc_is_list_of, od_is_list_of, .func (PySem.W.fnOf "is_list_of" "is_list_of" (defArgs s_is_list_of) (defBody s_is_list_of) (defScope s_is_list_of) .none kV_is_list_of dc_is_list_of pm_is_list_of_ an_is_list_of cd_is_list_of ct_is_list_of), sl_is_list_of⟩)
    (c_is_list_of : PySem.W.codeIn K cd_is_list_of "is_list_of" = true)
    (k_is_list_of : PySem.W.keepIn K (.ref f_is_list_of) = true)
    (a_lesser : PySem.W.nsIn K mainGlobals "lesser" = some (some (.ref f_lesser)))
    (l_lesser : K.lookup f_lesser = some ⟨oc_lesser, od_lesser, .func (PySem.W.fnOf "lesser" "lesser" (defArgs s_lesser) (defBody s_lesser) (defScope s_lesser) .none kV_lesser dc_lesser pm_lesser_ an_lesser cd_lesser ct_lesser), sl_lesser⟩)
    (c_lesser : PySem.W.codeIn K cd_lesser "lesser" = true)
    (k_lesser : PySem.W.keepIn K (.ref f_lesser) = true)
    (a_told_of : PySem.W.nsIn K mainGlobals "told_of" = some (some (.ref f_told_of)))
    (l_told_of : K.lookup f_told_of = some ⟨oc_told_of, od_told_of, .func (PySem.W.fnOf "told_of" "told_of" (defArgs s_told_of) (defBody s_told_of) (defScope s_told_of) .none kV_told_of dc_told_of pm_told_of_ an_told_of cd_told_of ct_told_of), sl_told_of⟩)
    (c_told_of : PySem.W.codeIn K cd_told_of "told_of" = true)
    (k_told_of : PySem.W.keepIn K (.ref f_told_of) = true)
    (a_are_under : PySem.W.nsIn K mainGlobals "are_under" = some (some (.ref f_are_under)))
    (l_are_under : K.lookup f_are_under = some ⟨oc_are_under, od_are_under, .func (PySem.W.fnOf "are_under" "are_under" (defArgs s_are_under) (defBody s_are_under) (defScope s_are_under) .none kV_are_under dc_are_under pm_are_under_ an_are_under cd_are_under ct_are_under), sl_are_under⟩)
    (c_are_under : PySem.W.codeIn K cd_are_under "are_under" = true)
    (k_are_under : PySem.W.keepIn K (.ref f_are_under) = true)
    (a_check_cap : PySem.W.nsIn K mainGlobals "check_cap" = some (some (.ref f_check_cap)))
    (l_check_cap : K.lookup f_check_cap = some ⟨oc_check_cap, od_check_cap, .func (PySem.W.fnOf "check_cap" "check_cap" (defArgs s_check_cap) (defBody s_check_cap) (defScope s_check_cap) .none kV_check_cap dc_check_cap pm_check_cap_ an_check_cap cd_check_cap ct_check_cap), sl_check_cap⟩)
    (c_check_cap : PySem.W.codeIn K cd_check_cap "check_cap" = true)
    (k_check_cap : PySem.W.keepIn K (.ref f_check_cap) = true)
    (a_check_room : PySem.W.nsIn K mainGlobals "check_room" = some (some (.ref f_check_room)))
    (l_check_room : K.lookup f_check_room = some ⟨oc_check_room, od_check_room, .func (PySem.W.fnOf "check_room" "check_room" (defArgs s_check_room) (defBody s_check_room) (defScope s_check_room) .none kV_check_room dc_check_room pm_check_room_ an_check_room cd_check_room ct_check_room), sl_check_room⟩)
    (c_check_room : PySem.W.codeIn K cd_check_room "check_room" = true)
    (k_check_room : PySem.W.keepIn K (.ref f_check_room) = true)
    (a_check_length : PySem.W.nsIn K mainGlobals "check_length" = some (some (.ref f_check_length)))
    (l_check_length : K.lookup f_check_length = some ⟨oc_check_length, od_check_length, .func (PySem.W.fnOf "check_length" "check_length" (defArgs s_check_length) (defBody s_check_length) (defScope s_check_length) .none kV_check_length dc_check_length pm_check_length_ an_check_length cd_check_length ct_check_length), sl_check_length⟩)
    (c_check_length : PySem.W.codeIn K cd_check_length "check_length" = true)
    (k_check_length : PySem.W.keepIn K (.ref f_check_length) = true)
    (a_check_goods : PySem.W.nsIn K mainGlobals "check_goods" = some (some (.ref f_check_goods)))
    (l_check_goods : K.lookup f_check_goods = some ⟨oc_check_goods, od_check_goods, .func (PySem.W.fnOf "check_goods" "check_goods" (defArgs s_check_goods) (defBody s_check_goods) (defScope s_check_goods) .none kV_check_goods dc_check_goods pm_check_goods_ an_check_goods cd_check_goods ct_check_goods), sl_check_goods⟩)
    (c_check_goods : PySem.W.codeIn K cd_check_goods "check_goods" = true)
    (k_check_goods : PySem.W.keepIn K (.ref f_check_goods) = true)
    (a_goes : PySem.W.nsIn K mainGlobals "goes" = some (some (.ref f_goes)))
    (l_goes : K.lookup f_goes = some ⟨oc_goes, od_goes, .func (PySem.W.fnOf "goes" "goes" (defArgs s_goes) (defBody s_goes) (defScope s_goes) .none kV_goes dc_goes pm_goes_ an_goes cd_goes ct_goes), sl_goes⟩)
    (c_goes : PySem.W.codeIn K cd_goes "goes" = true)
    (k_goes : PySem.W.keepIn K (.ref f_goes) = true)
    (a_reaches_of : PySem.W.nsIn K mainGlobals "reaches_of" = some (some (.ref f_reaches_of)))
    (l_reaches_of : K.lookup f_reaches_of = some ⟨oc_reaches_of, od_reaches_of, .func (PySem.W.fnOf "reaches_of" "reaches_of" (defArgs s_reaches_of) (defBody s_reaches_of) (defScope s_reaches_of) .none kV_reaches_of dc_reaches_of pm_reaches_of_ an_reaches_of cd_reaches_of ct_reaches_of), sl_reaches_of⟩)
    (c_reaches_of : PySem.W.codeIn K cd_reaches_of "reaches_of" = true)
    (k_reaches_of : PySem.W.keepIn K (.ref f_reaches_of) = true)
    (a_told_cut : PySem.W.nsIn K mainGlobals "told_cut" = some (some (.ref f_told_cut)))
    (l_told_cut : K.lookup f_told_cut = some ⟨oc_told_cut, od_told_cut, .func (PySem.W.fnOf "told_cut" "told_cut" (defArgs s_told_cut) (defBody s_told_cut) (defScope s_told_cut) .none kV_told_cut dc_told_cut pm_told_cut_ an_told_cut cd_told_cut ct_told_cut), sl_told_cut⟩)
    (c_told_cut : PySem.W.codeIn K cd_told_cut "told_cut" = true)
    (k_told_cut : PySem.W.keepIn K (.ref f_told_cut) = true)
    (a_cuts : PySem.W.nsIn K mainGlobals "cuts" = some (some (.ref f_cuts)))
    (l_cuts : K.lookup f_cuts = some ⟨oc_cuts, od_cuts, .func (PySem.W.fnOf "cuts" "cuts" (defArgs s_cuts) (defBody s_cuts) (defScope s_cuts) .none kV_cuts dc_cuts pm_cuts_ an_cuts cd_cuts ct_cuts), sl_cuts⟩)
    (c_cuts : PySem.W.codeIn K cd_cuts "cuts" = true)
    (k_cuts : PySem.W.keepIn K (.ref f_cuts) = true)
    (a_needs_of : PySem.W.nsIn K mainGlobals "needs_of" = some (some (.ref f_needs_of)))
    (l_needs_of : K.lookup f_needs_of = some ⟨oc_needs_of, od_needs_of, .func (PySem.W.fnOf "needs_of" "needs_of" (defArgs s_needs_of) (defBody s_needs_of) (defScope s_needs_of) .none kV_needs_of dc_needs_of pm_needs_of_ an_needs_of cd_needs_of ct_needs_of), sl_needs_of⟩)
    (c_needs_of : PySem.W.codeIn K cd_needs_of "needs_of" = true)
    (k_needs_of : PySem.W.keepIn K (.ref f_needs_of) = true)
    (a_next_pieces : PySem.W.nsIn K mainGlobals "next_pieces" = some (some (.ref f_next_pieces)))
    (l_next_pieces : K.lookup f_next_pieces = some ⟨oc_next_pieces, od_next_pieces, .func (PySem.W.fnOf "next_pieces" "next_pieces" (defArgs s_next_pieces) (defBody s_next_pieces) (defScope s_next_pieces) .none kV_next_pieces dc_next_pieces pm_next_pieces_ an_next_pieces cd_next_pieces ct_next_pieces), sl_next_pieces⟩)
    (c_next_pieces : PySem.W.codeIn K cd_next_pieces "next_pieces" = true)
    (k_next_pieces : PySem.W.keepIn K (.ref f_next_pieces) = true)
    (a_filled : PySem.W.nsIn K mainGlobals "filled" = some (some (.ref f_filled)))
    (l_filled : K.lookup f_filled = some ⟨oc_filled, od_filled, .func (PySem.W.fnOf "filled" "filled" (defArgs s_filled) (defBody s_filled) (defScope s_filled) .none kV_filled dc_filled pm_filled_ an_filled cd_filled ct_filled), sl_filled⟩)
    (c_filled : PySem.W.codeIn K cd_filled "filled" = true)
    (k_filled : PySem.W.keepIn K (.ref f_filled) = true)
    (a__law_start : PySem.W.nsIn K mainGlobals "_law_start" = some (some (.ref f__law_start)))
    (l__law_start : K.lookup f__law_start = some ⟨oc__law_start, od__law_start, .func (PySem.W.fnOf "_law_start" "_law_start" (defArgs s__law_start) (defBody s__law_start) (defScope s__law_start) .none kV__law_start dc__law_start pm__law_start_ an__law_start cd__law_start ct__law_start), sl__law_start⟩)
    (c__law_start : PySem.W.codeIn K cd__law_start "_law_start" = true)
    (k__law_start : PySem.W.keepIn K (.ref f__law_start) = true)
    (a__law_draw : PySem.W.nsIn K mainGlobals "_law_draw" = some (some (.ref f__law_draw)))
    (l__law_draw : K.lookup f__law_draw = some ⟨oc__law_draw, od__law_draw, .func (PySem.W.fnOf "_law_draw" "_law_draw" (defArgs s__law_draw) (defBody s__law_draw) (defScope s__law_draw) .none kV__law_draw dc__law_draw pm__law_draw_ an__law_draw cd__law_draw ct__law_draw), sl__law_draw⟩)
    (c__law_draw : PySem.W.codeIn K cd__law_draw "_law_draw" = true)
    (k__law_draw : PySem.W.keepIn K (.ref f__law_draw) = true)
    (a__law_rising : PySem.W.nsIn K mainGlobals "_law_rising" = some (some (.ref f__law_rising)))
    (l__law_rising : K.lookup f__law_rising = some ⟨oc__law_rising, od__law_rising, .func (PySem.W.fnOf "_law_rising" "_law_rising" (defArgs s__law_rising) (defBody s__law_rising) (defScope s__law_rising) .none kV__law_rising dc__law_rising pm__law_rising_ an__law_rising cd__law_rising ct__law_rising), sl__law_rising⟩)
    (c__law_rising : PySem.W.codeIn K cd__law_rising "_law_rising" = true)
    (k__law_rising : PySem.W.keepIn K (.ref f__law_rising) = true)
    (a__law_told : PySem.W.nsIn K mainGlobals "_law_told" = some (some (.ref f__law_told)))
    (l__law_told : K.lookup f__law_told = some ⟨oc__law_told, od__law_told, .func (PySem.W.fnOf "_law_told" "_law_told" (defArgs s__law_told) (defBody s__law_told) (defScope s__law_told) .none kV__law_told dc__law_told pm__law_told_ an__law_told cd__law_told ct__law_told), sl__law_told⟩)
    (c__law_told : PySem.W.codeIn K cd__law_told "_law_told" = true)
    (k__law_told : PySem.W.keepIn K (.ref f__law_told) = true)
    (a__law_cuts : PySem.W.nsIn K mainGlobals "_law_cuts" = some (some (.ref f__law_cuts)))
    (l__law_cuts : K.lookup f__law_cuts = some ⟨oc__law_cuts, od__law_cuts, .func (PySem.W.fnOf "_law_cuts" "_law_cuts" (defArgs s__law_cuts) (defBody s__law_cuts) (defScope s__law_cuts) .none kV__law_cuts dc__law_cuts pm__law_cuts_ an__law_cuts cd__law_cuts ct__law_cuts), sl__law_cuts⟩)
    (c__law_cuts : PySem.W.codeIn K cd__law_cuts "_law_cuts" = true)
    (k__law_cuts : PySem.W.keepIn K (.ref f__law_cuts) = true)
    (a__law_first : PySem.W.nsIn K mainGlobals "_law_first" = some (some (.ref f__law_first)))
    (l__law_first : K.lookup f__law_first = some ⟨oc__law_first, od__law_first, .func (PySem.W.fnOf "_law_first" "_law_first" (defArgs s__law_first) (defBody s__law_first) (defScope s__law_first) .none kV__law_first dc__law_first pm__law_first_ an__law_first cd__law_first ct__law_first), sl__law_first⟩)
    (c__law_first : PySem.W.codeIn K cd__law_first "_law_first" = true)
    (k__law_first : PySem.W.keepIn K (.ref f__law_first) = true)
    (a__law_rows : PySem.W.nsIn K mainGlobals "_law_rows" = some (some (.ref f__law_rows)))
    (l__law_rows : K.lookup f__law_rows = some ⟨oc__law_rows, od__law_rows, .func (PySem.W.fnOf "_law_rows" "_law_rows" (defArgs s__law_rows) (defBody s__law_rows) (defScope s__law_rows) .none kV__law_rows dc__law_rows pm__law_rows_ an__law_rows cd__law_rows ct__law_rows), sl__law_rows⟩)
    (c__law_rows : PySem.W.codeIn K cd__law_rows "_law_rows" = true)
    (k__law_rows : PySem.W.keepIn K (.ref f__law_rows) = true)
    (a_law : PySem.W.nsIn K mainGlobals "law" = some (some (.ref f_law)))
    (l_law : K.lookup f_law = some ⟨oc_law, od_law, .func (PySem.W.fnOf "law" "law" (defArgs s_law) (defBody s_law) (defScope s_law) .none kV_law dc_law pm_law_ an_law cd_law ct_law), sl_law⟩)
    (c_law : PySem.W.codeIn K cd_law "law" = true)
    (k_law : PySem.W.keepIn K (.ref f_law) = true)
    (a_BadPart_init : PySem.W.findIn K (.ref ABadPart) "__init__" = some (some (.ref f_BadPart_init)))
    (i_BadPart_init : PySem.W.typeIn K (.ref f_BadPart_init) = some (.type "function"))
    (l_BadPart_init : K.lookup f_BadPart_init = some ⟨oc_BadPart_init, od_BadPart_init, .func (PySem.W.fnOf "__init__" "BadPart.__init__" (defArgs s_BadPart_init) (defBody s_BadPart_init) (defScope s_BadPart_init) .none kV_BadPart_init dc_BadPart_init pm_BadPart_init_ an_BadPart_init cd_BadPart_init ct_BadPart_init), sl_BadPart_init⟩)
    (c_BadPart_init : PySem.W.codeIn K cd_BadPart_init "BadPart.__init__" = true)
    (k_BadPart_init : PySem.W.keepIn K (.ref f_BadPart_init) = true)
    (a_BadNumber_init : PySem.W.findIn K (.ref ABadNumber) "__init__" = some (some (.ref f_BadNumber_init)))
    (i_BadNumber_init : PySem.W.typeIn K (.ref f_BadNumber_init) = some (.type "function"))
    (l_BadNumber_init : K.lookup f_BadNumber_init = some ⟨oc_BadNumber_init, od_BadNumber_init, .func (PySem.W.fnOf "__init__" "BadNumber.__init__" (defArgs s_BadNumber_init) (defBody s_BadNumber_init) (defScope s_BadNumber_init) .none kV_BadNumber_init dc_BadNumber_init pm_BadNumber_init_ an_BadNumber_init cd_BadNumber_init ct_BadNumber_init), sl_BadNumber_init⟩)
    (c_BadNumber_init : PySem.W.codeIn K cd_BadNumber_init "BadNumber.__init__" = true)
    (k_BadNumber_init : PySem.W.keepIn K (.ref f_BadNumber_init) = true)
    (a_BadSteps_init : PySem.W.findIn K (.ref ABadSteps) "__init__" = some (some (.ref f_BadSteps_init)))
    (i_BadSteps_init : PySem.W.typeIn K (.ref f_BadSteps_init) = some (.type "function"))
    (l_BadSteps_init : K.lookup f_BadSteps_init = some ⟨oc_BadSteps_init, od_BadSteps_init, .func (PySem.W.fnOf "__init__" "BadSteps.__init__" (defArgs s_BadSteps_init) (defBody s_BadSteps_init) (defScope s_BadSteps_init) .none kV_BadSteps_init dc_BadSteps_init pm_BadSteps_init_ an_BadSteps_init cd_BadSteps_init ct_BadSteps_init), sl_BadSteps_init⟩)
    (c_BadSteps_init : PySem.W.codeIn K cd_BadSteps_init "BadSteps.__init__" = true)
    (k_BadSteps_init : PySem.W.keepIn K (.ref f_BadSteps_init) = true)
    (a_BadPiece_init : PySem.W.findIn K (.ref ABadPiece) "__init__" = some (some (.ref f_BadPiece_init)))
    (i_BadPiece_init : PySem.W.typeIn K (.ref f_BadPiece_init) = some (.type "function"))
    (l_BadPiece_init : K.lookup f_BadPiece_init = some ⟨oc_BadPiece_init, od_BadPiece_init, .func (PySem.W.fnOf "__init__" "BadPiece.__init__" (defArgs s_BadPiece_init) (defBody s_BadPiece_init) (defScope s_BadPiece_init) .none kV_BadPiece_init dc_BadPiece_init pm_BadPiece_init_ an_BadPiece_init cd_BadPiece_init ct_BadPiece_init), sl_BadPiece_init⟩)
    (c_BadPiece_init : PySem.W.codeIn K cd_BadPiece_init "BadPiece.__init__" = true)
    (k_BadPiece_init : PySem.W.keepIn K (.ref f_BadPiece_init) = true)
    (a_TooMany_init : PySem.W.findIn K (.ref ATooMany) "__init__" = some (some (.ref f_TooMany_init)))
    (i_TooMany_init : PySem.W.typeIn K (.ref f_TooMany_init) = some (.type "function"))
    (l_TooMany_init : K.lookup f_TooMany_init = some ⟨oc_TooMany_init, od_TooMany_init, .func (PySem.W.fnOf "__init__" "TooMany.__init__" (defArgs s_TooMany_init) (defBody s_TooMany_init) (defScope s_TooMany_init) .none kV_TooMany_init dc_TooMany_init pm_TooMany_init_ an_TooMany_init cd_TooMany_init ct_TooMany_init), sl_TooMany_init⟩)
    (c_TooMany_init : PySem.W.codeIn K cd_TooMany_init "TooMany.__init__" = true)
    (k_TooMany_init : PySem.W.keepIn K (.ref f_TooMany_init) = true)
    (a_Steps_init : PySem.W.findIn K (.ref ASteps) "__init__" = some (some (.ref f_Steps_init)))
    (i_Steps_init : PySem.W.isFn K (.ref f_Steps_init) = true)
    (l_Steps_init : K.lookup f_Steps_init = some ⟨oc_Steps_init, od_Steps_init, .func (PySem.W.fnOf "__init__" "Steps.__init__" (defArgs s_Steps_init) (defBody s_Steps_init) (defScope s_Steps_init) .none kV_Steps_init dc_Steps_init pm_Steps_init_ an_Steps_init cd_Steps_init ct_Steps_init), sl_Steps_init⟩)
    (c_Steps_init : PySem.W.codeIn K cd_Steps_init "Steps.__init__" = true)
    (k_Steps_init : PySem.W.keepIn K (.ref f_Steps_init) = true)
    (a_Steps_call : PySem.W.findIn K (.ref ASteps) "__call__" = some (some (.ref f_Steps_call)))
    (i_Steps_call : PySem.W.isFn K (.ref f_Steps_call) = true)
    (l_Steps_call : K.lookup f_Steps_call = some ⟨oc_Steps_call, od_Steps_call, .func (PySem.W.fnOf "__call__" "Steps.__call__" (defArgs s_Steps_call) (defBody s_Steps_call) (defScope s_Steps_call) .none kV_Steps_call dc_Steps_call pm_Steps_call_ an_Steps_call cd_Steps_call ct_Steps_call), sl_Steps_call⟩)
    (c_Steps_call : PySem.W.codeIn K cd_Steps_call "Steps.__call__" = true)
    (k_Steps_call : PySem.W.keepIn K (.ref f_Steps_call) = true)
    (a_Steps_len : PySem.W.findIn K (.ref ASteps) "__len__" = some (some (.ref f_Steps_len)))
    (i_Steps_len : PySem.W.isFn K (.ref f_Steps_len) = true)
    (l_Steps_len : K.lookup f_Steps_len = some ⟨oc_Steps_len, od_Steps_len, .func (PySem.W.fnOf "__len__" "Steps.__len__" (defArgs s_Steps_len) (defBody s_Steps_len) (defScope s_Steps_len) .none kV_Steps_len dc_Steps_len pm_Steps_len_ an_Steps_len cd_Steps_len ct_Steps_len), sl_Steps_len⟩)
    (c_Steps_len : PySem.W.codeIn K cd_Steps_len "Steps.__len__" = true)
    (k_Steps_len : PySem.W.keepIn K (.ref f_Steps_len) = true)
    (a_Steps_contains : PySem.W.findIn K (.ref ASteps) "__contains__" = some (some (.ref f_Steps_contains)))
    (i_Steps_contains : PySem.W.isFn K (.ref f_Steps_contains) = true)
    (l_Steps_contains : K.lookup f_Steps_contains = some ⟨oc_Steps_contains, od_Steps_contains, .func (PySem.W.fnOf "__contains__" "Steps.__contains__" (defArgs s_Steps_contains) (defBody s_Steps_contains) (defScope s_Steps_contains) .none kV_Steps_contains dc_Steps_contains pm_Steps_contains_ an_Steps_contains cd_Steps_contains ct_Steps_contains), sl_Steps_contains⟩)
    (c_Steps_contains : PySem.W.codeIn K cd_Steps_contains "Steps.__contains__" = true)
    (k_Steps_contains : PySem.W.keepIn K (.ref f_Steps_contains) = true)
    (a_Steps_le : PySem.W.findIn K (.ref ASteps) "__le__" = some (some (.ref f_Steps_le)))
    (i_Steps_le : PySem.W.isFn K (.ref f_Steps_le) = true)
    (l_Steps_le : K.lookup f_Steps_le = some ⟨oc_Steps_le, od_Steps_le, .func (PySem.W.fnOf "__le__" "Steps.__le__" (defArgs s_Steps_le) (defBody s_Steps_le) (defScope s_Steps_le) .none kV_Steps_le dc_Steps_le pm_Steps_le_ an_Steps_le cd_Steps_le ct_Steps_le), sl_Steps_le⟩)
    (c_Steps_le : PySem.W.codeIn K cd_Steps_le "Steps.__le__" = true)
    (k_Steps_le : PySem.W.keepIn K (.ref f_Steps_le) = true)
    (a_Steps_add : PySem.W.findIn K (.ref ASteps) "__add__" = some (some (.ref f_Steps_add)))
    (i_Steps_add : PySem.W.isFn K (.ref f_Steps_add) = true)
    (l_Steps_add : K.lookup f_Steps_add = some ⟨oc_Steps_add, od_Steps_add, .func (PySem.W.fnOf "__add__" "Steps.__add__" (defArgs s_Steps_add) (defBody s_Steps_add) (defScope s_Steps_add) .none kV_Steps_add dc_Steps_add pm_Steps_add_ an_Steps_add cd_Steps_add ct_Steps_add), sl_Steps_add⟩)
    (c_Steps_add : PySem.W.codeIn K cd_Steps_add "Steps.__add__" = true)
    (k_Steps_add : PySem.W.keepIn K (.ref f_Steps_add) = true)
    (a_Steps_eq : PySem.W.findIn K (.ref ASteps) "__eq__" = some (some (.ref f_Steps_eq)))
    (i_Steps_eq : PySem.W.isFn K (.ref f_Steps_eq) = true)
    (l_Steps_eq : K.lookup f_Steps_eq = some ⟨oc_Steps_eq, od_Steps_eq, .func (PySem.W.fnOf "__eq__" "Steps.__eq__" (defArgs s_Steps_eq) (defBody s_Steps_eq) (defScope s_Steps_eq) .none kV_Steps_eq dc_Steps_eq pm_Steps_eq_ an_Steps_eq cd_Steps_eq ct_Steps_eq), sl_Steps_eq⟩)
    (c_Steps_eq : PySem.W.codeIn K cd_Steps_eq "Steps.__eq__" = true)
    (k_Steps_eq : PySem.W.keepIn K (.ref f_Steps_eq) = true)
    (a_Room_init : PySem.W.findIn K (.ref ARoom) "__init__" = some (some (.ref f_Room_init)))
    (i_Room_init : PySem.W.isFn K (.ref f_Room_init) = true)
    (l_Room_init : K.lookup f_Room_init = some ⟨oc_Room_init, od_Room_init, .func (PySem.W.fnOf "__init__" "Room.__init__" (defArgs s_Room_init) (defBody s_Room_init) (defScope s_Room_init) .none kV_Room_init dc_Room_init pm_Room_init_ an_Room_init cd_Room_init ct_Room_init), sl_Room_init⟩)
    (c_Room_init : PySem.W.codeIn K cd_Room_init "Room.__init__" = true)
    (k_Room_init : PySem.W.keepIn K (.ref f_Room_init) = true)
    (a_Room_told : PySem.W.findIn K (.ref ARoom) "told" = some (some (.ref f_Room_told)))
    (i_Room_told : PySem.W.isFn K (.ref f_Room_told) = true)
    (l_Room_told : K.lookup f_Room_told = some ⟨oc_Room_told, od_Room_told, .func (PySem.W.fnOf "told" "Room.told" (defArgs s_Room_told) (defBody s_Room_told) (defScope s_Room_told) .none kV_Room_told dc_Room_told pm_Room_told_ an_Room_told cd_Room_told ct_Room_told), sl_Room_told⟩)
    (c_Room_told : PySem.W.codeIn K cd_Room_told "Room.told" = true)
    (k_Room_told : PySem.W.keepIn K (.ref f_Room_told) = true)
    (a_Room_reach : PySem.W.findIn K (.ref ARoom) "reach" = some (some (.ref f_Room_reach)))
    (i_Room_reach : PySem.W.isFn K (.ref f_Room_reach) = true)
    (l_Room_reach : K.lookup f_Room_reach = some ⟨oc_Room_reach, od_Room_reach, .func (PySem.W.fnOf "reach" "Room.reach" (defArgs s_Room_reach) (defBody s_Room_reach) (defScope s_Room_reach) .none kV_Room_reach dc_Room_reach pm_Room_reach_ an_Room_reach cd_Room_reach ct_Room_reach), sl_Room_reach⟩)
    (c_Room_reach : PySem.W.codeIn K cd_Room_reach "Room.reach" = true)
    (k_Room_reach : PySem.W.keepIn K (.ref f_Room_reach) = true)
    (a_Room_top : PySem.W.findIn K (.ref ARoom) "top" = some (some (.ref f_Room_top)))
    (i_Room_top : PySem.W.isFn K (.ref f_Room_top) = true)
    (l_Room_top : K.lookup f_Room_top = some ⟨oc_Room_top, od_Room_top, .func (PySem.W.fnOf "top" "Room.top" (defArgs s_Room_top) (defBody s_Room_top) (defScope s_Room_top) .none kV_Room_top dc_Room_top pm_Room_top_ an_Room_top cd_Room_top ct_Room_top), sl_Room_top⟩)
    (c_Room_top : PySem.W.codeIn K cd_Room_top "Room.top" = true)
    (k_Room_top : PySem.W.keepIn K (.ref f_Room_top) = true)
    (a_Room_le : PySem.W.findIn K (.ref ARoom) "__le__" = some (some (.ref f_Room_le)))
    (i_Room_le : PySem.W.isFn K (.ref f_Room_le) = true)
    (l_Room_le : K.lookup f_Room_le = some ⟨oc_Room_le, od_Room_le, .func (PySem.W.fnOf "__le__" "Room.__le__" (defArgs s_Room_le) (defBody s_Room_le) (defScope s_Room_le) .none kV_Room_le dc_Room_le pm_Room_le_ an_Room_le cd_Room_le ct_Room_le), sl_Room_le⟩)
    (c_Room_le : PySem.W.codeIn K cd_Room_le "Room.__le__" = true)
    (k_Room_le : PySem.W.keepIn K (.ref f_Room_le) = true)
    (a_Room_eq : PySem.W.findIn K (.ref ARoom) "__eq__" = some (some (.ref f_Room_eq)))
    (i_Room_eq : PySem.W.isFn K (.ref f_Room_eq) = true)
    (l_Room_eq : K.lookup f_Room_eq = some ⟨oc_Room_eq, od_Room_eq, .func (PySem.W.fnOf "__eq__" "Room.__eq__" (defArgs s_Room_eq) (defBody s_Room_eq) (defScope s_Room_eq) .none kV_Room_eq dc_Room_eq pm_Room_eq_ an_Room_eq cd_Room_eq ct_Room_eq), sl_Room_eq⟩)
    (c_Room_eq : PySem.W.codeIn K cd_Room_eq "Room.__eq__" = true)
    (k_Room_eq : PySem.W.keepIn K (.ref f_Room_eq) = true)
    (n_isinstance : PySem.W.nsIn K mainGlobals "isinstance" = some none)
    (n_int : PySem.W.nsIn K mainGlobals "int" = some none)
    (n_bool : PySem.W.nsIn K mainGlobals "bool" = some none)
    (n_list : PySem.W.nsIn K mainGlobals "list" = some none)
    (n_tuple : PySem.W.nsIn K mainGlobals "tuple" = some none)
    (n_len : PySem.W.nsIn K mainGlobals "len" = some none)
    (n_range : PySem.W.nsIn K mainGlobals "range" = some none)
    (n_max : PySem.W.nsIn K mainGlobals "max" = some none)
    (n_min : PySem.W.nsIn K mainGlobals "min" = some none)
    (n_abs : PySem.W.nsIn K mainGlobals "abs" = some none)
    (n_enumerate : PySem.W.nsIn K mainGlobals "enumerate" = some none)
    (n_all : PySem.W.nsIn K mainGlobals "all" = some none)
    (n_sorted : PySem.W.nsIn K mainGlobals "sorted" = some none)
    (n_reversed : PySem.W.nsIn K mainGlobals "reversed" = some none)
    (v_MOST_BOUNDS : PySem.W.nsIn K mainGlobals "MOST_BOUNDS" = some (some (.int 4 t_MOST_BOUNDS)))
    (v_MOST_UNITS : PySem.W.nsIn K mainGlobals "MOST_UNITS" = some (some (.int 60 t_MOST_UNITS)))
    (v_MOST_CAP : PySem.W.nsIn K mainGlobals "MOST_CAP" = some (some (.int 99 t_MOST_CAP)))
    (v_MOST_LENGTH : PySem.W.nsIn K mainGlobals "MOST_LENGTH" = some (some (.int 99 t_MOST_LENGTH)))
    (s_hn : PySem.W.specialIn K (.builtin "object.__class__") "__get__" = some (some (.builtin "getset_descriptor.__get__")))
    (s_tk : PySem.W.takesIn K (.builtin "object.__class__") = some true)
    (pg_Steps : PySem.W.plainGet K ASteps Str.empty = true)
    (hd_Steps : PySem.W.hasDictIn K ASteps = true)
    (po_Steps : PySem.W.plainOver K ASteps = true)
    (sa_Steps : PySem.W.findIn K (.ref ASteps) "__setattr__" = some (some (.builtin "object.__setattr__")))
    (ha_Steps : PySem.W.findIn K (.ref ASteps) "__class__" = some (some (.builtin "object.__class__")))
    (hm_Steps : PySem.W.mroIn K ASteps (.type "object") = some true)
    (ne_Steps : PySem.W.findIn K (.ref ASteps) "__ne__" = some (some (.builtin "object.__ne__")))
    (is_Steps : PySem.W.isClsIn K ASteps = true)
    (ty_Steps : PySem.W.typeIn K (.ref ASteps) = some (.type "type"))
    (tup_Steps : PySem.W.subIn K (.ref ASteps) (.type "tuple") = some false)
    (lst_Steps : PySem.W.subIn K (.ref ASteps) (.type "list") = some false)
    (int_Steps : PySem.W.subIn K (.ref ASteps) (.type "int") = some false)
    (str_Steps : PySem.W.subIn K (.ref ASteps) (.type "str") = some false)
    (mk_Steps : PySem.W.makesIn K ASteps = true)
    (kc_Steps : PySem.W.keepIn K (.ref ASteps) = true)
    (na_Steps_bounds : PySem.W.findIn K (.ref ASteps) "bounds" = some none)
    (pg_Room : PySem.W.plainGet K ARoom Str.empty = true)
    (hd_Room : PySem.W.hasDictIn K ARoom = true)
    (po_Room : PySem.W.plainOver K ARoom = true)
    (sa_Room : PySem.W.findIn K (.ref ARoom) "__setattr__" = some (some (.builtin "object.__setattr__")))
    (ha_Room : PySem.W.findIn K (.ref ARoom) "__class__" = some (some (.builtin "object.__class__")))
    (hm_Room : PySem.W.mroIn K ARoom (.type "object") = some true)
    (ne_Room : PySem.W.findIn K (.ref ARoom) "__ne__" = some (some (.builtin "object.__ne__")))
    (is_Room : PySem.W.isClsIn K ARoom = true)
    (ty_Room : PySem.W.typeIn K (.ref ARoom) = some (.type "type"))
    (tup_Room : PySem.W.subIn K (.ref ARoom) (.type "tuple") = some false)
    (lst_Room : PySem.W.subIn K (.ref ARoom) (.type "list") = some false)
    (int_Room : PySem.W.subIn K (.ref ARoom) (.type "int") = some false)
    (str_Room : PySem.W.subIn K (.ref ARoom) (.type "str") = some false)
    (mk_Room : PySem.W.makesIn K ARoom = true)
    (kc_Room : PySem.W.keepIn K (.ref ARoom) = true)
    (na_Room_size : PySem.W.findIn K (.ref ARoom) "size" = some none)
    (na_Room_steps : PySem.W.findIn K (.ref ARoom) "steps" = some none)
    (xBadPart_L : K.lookup ABadPart = some (excClassObj xBadPart_nm xBadPart_q ABadPart xBadPart_N xBadPart_bs [.ref AWholeError, .type "ValueError", .type "Exception", .type "BaseException", .type "object"] true xBadPart_sn xBadPart_sub xBadPart_ab xBadPart_col xBadPart_dd xBadPart_m0 xBadPart_m1 xBadPart_m2 xBadPart_m3 xBadPart_m5 "ValueError.__new__"))
    (xBadPart_sa : PySem.W.findIn K (.ref ABadPart) "__setattr__" = some (some (.builtin "object.__setattr__")))
    (xBadPart_ex : PySem.W.subIn K (.ref ABadPart) (.type "BaseException") = some true)
    (xBadPart_ty : PySem.W.typeIn K (.ref ABadPart) = some (.type "type"))
    (xBadPart_kC : PySem.W.keepIn K (.ref ABadPart) = true)
    (xBadPart_noA : PySem.W.findIn K (.ref ABadPart) "part" = some none)
    (xBadPart_hg : PySem.W.findIn K (.ref ABadPart) "__getattribute__" = some (some (.builtin "BaseException.__getattribute__")))
    (xBadPart_hk : PySem.W.findIn K (.ref ABadPart) "__getattr__" = some none)
    (xBadPart_hd : PySem.W.hasDictIn K ABadPart = true)
    (xBadPart_ha : PySem.W.findIn K (.ref ABadPart) "__class__" = some (some (.builtin "object.__class__")))
    (xBadPart_hm : PySem.W.mroIn K ABadPart (.type "object") = some true)
    (xBadPart_is : PySem.W.isClsIn K ABadPart = true)
    (xBadPart_ss : PySem.W.subIn K (.ref ABadPart) (.ref ABadPart) = some true)
    (xBadPart_w : PySem.W.subIn K (.ref ABadPart) (.ref AWholeError) = some true)
    (xBadNumber_L : K.lookup ABadNumber = some (excClassObj xBadNumber_nm xBadNumber_q ABadNumber xBadNumber_N xBadNumber_bs [.ref AWholeError, .type "ValueError", .type "Exception", .type "BaseException", .type "object"] true xBadNumber_sn xBadNumber_sub xBadNumber_ab xBadNumber_col xBadNumber_dd xBadNumber_m0 xBadNumber_m1 xBadNumber_m2 xBadNumber_m3 xBadNumber_m5 "ValueError.__new__"))
    (xBadNumber_sa : PySem.W.findIn K (.ref ABadNumber) "__setattr__" = some (some (.builtin "object.__setattr__")))
    (xBadNumber_ex : PySem.W.subIn K (.ref ABadNumber) (.type "BaseException") = some true)
    (xBadNumber_ty : PySem.W.typeIn K (.ref ABadNumber) = some (.type "type"))
    (xBadNumber_kC : PySem.W.keepIn K (.ref ABadNumber) = true)
    (xBadNumber_noA : PySem.W.findIn K (.ref ABadNumber) "number" = some none)
    (xBadNumber_hg : PySem.W.findIn K (.ref ABadNumber) "__getattribute__" = some (some (.builtin "BaseException.__getattribute__")))
    (xBadNumber_hk : PySem.W.findIn K (.ref ABadNumber) "__getattr__" = some none)
    (xBadNumber_hd : PySem.W.hasDictIn K ABadNumber = true)
    (xBadNumber_ha : PySem.W.findIn K (.ref ABadNumber) "__class__" = some (some (.builtin "object.__class__")))
    (xBadNumber_hm : PySem.W.mroIn K ABadNumber (.type "object") = some true)
    (xBadNumber_is : PySem.W.isClsIn K ABadNumber = true)
    (xBadNumber_ss : PySem.W.subIn K (.ref ABadNumber) (.ref ABadNumber) = some true)
    (xBadNumber_w : PySem.W.subIn K (.ref ABadNumber) (.ref AWholeError) = some true)
    (xBadSteps_L : K.lookup ABadSteps = some (excClassObj xBadSteps_nm xBadSteps_q ABadSteps xBadSteps_N xBadSteps_bs [.ref AWholeError, .type "ValueError", .type "Exception", .type "BaseException", .type "object"] true xBadSteps_sn xBadSteps_sub xBadSteps_ab xBadSteps_col xBadSteps_dd xBadSteps_m0 xBadSteps_m1 xBadSteps_m2 xBadSteps_m3 xBadSteps_m5 "ValueError.__new__"))
    (xBadSteps_sa : PySem.W.findIn K (.ref ABadSteps) "__setattr__" = some (some (.builtin "object.__setattr__")))
    (xBadSteps_ex : PySem.W.subIn K (.ref ABadSteps) (.type "BaseException") = some true)
    (xBadSteps_ty : PySem.W.typeIn K (.ref ABadSteps) = some (.type "type"))
    (xBadSteps_kC : PySem.W.keepIn K (.ref ABadSteps) = true)
    (xBadSteps_noA : PySem.W.findIn K (.ref ABadSteps) "index" = some none)
    (xBadSteps_hg : PySem.W.findIn K (.ref ABadSteps) "__getattribute__" = some (some (.builtin "BaseException.__getattribute__")))
    (xBadSteps_hk : PySem.W.findIn K (.ref ABadSteps) "__getattr__" = some none)
    (xBadSteps_hd : PySem.W.hasDictIn K ABadSteps = true)
    (xBadSteps_ha : PySem.W.findIn K (.ref ABadSteps) "__class__" = some (some (.builtin "object.__class__")))
    (xBadSteps_hm : PySem.W.mroIn K ABadSteps (.type "object") = some true)
    (xBadSteps_is : PySem.W.isClsIn K ABadSteps = true)
    (xBadSteps_ss : PySem.W.subIn K (.ref ABadSteps) (.ref ABadSteps) = some true)
    (xBadSteps_w : PySem.W.subIn K (.ref ABadSteps) (.ref AWholeError) = some true)
    (xBadPiece_L : K.lookup ABadPiece = some (excClassObj xBadPiece_nm xBadPiece_q ABadPiece xBadPiece_N xBadPiece_bs [.ref AWholeError, .type "ValueError", .type "Exception", .type "BaseException", .type "object"] true xBadPiece_sn xBadPiece_sub xBadPiece_ab xBadPiece_col xBadPiece_dd xBadPiece_m0 xBadPiece_m1 xBadPiece_m2 xBadPiece_m3 xBadPiece_m5 "ValueError.__new__"))
    (xBadPiece_sa : PySem.W.findIn K (.ref ABadPiece) "__setattr__" = some (some (.builtin "object.__setattr__")))
    (xBadPiece_ex : PySem.W.subIn K (.ref ABadPiece) (.type "BaseException") = some true)
    (xBadPiece_ty : PySem.W.typeIn K (.ref ABadPiece) = some (.type "type"))
    (xBadPiece_kC : PySem.W.keepIn K (.ref ABadPiece) = true)
    (xBadPiece_noA : PySem.W.findIn K (.ref ABadPiece) "index" = some none)
    (xBadPiece_hg : PySem.W.findIn K (.ref ABadPiece) "__getattribute__" = some (some (.builtin "BaseException.__getattribute__")))
    (xBadPiece_hk : PySem.W.findIn K (.ref ABadPiece) "__getattr__" = some none)
    (xBadPiece_hd : PySem.W.hasDictIn K ABadPiece = true)
    (xBadPiece_ha : PySem.W.findIn K (.ref ABadPiece) "__class__" = some (some (.builtin "object.__class__")))
    (xBadPiece_hm : PySem.W.mroIn K ABadPiece (.type "object") = some true)
    (xBadPiece_is : PySem.W.isClsIn K ABadPiece = true)
    (xBadPiece_ss : PySem.W.subIn K (.ref ABadPiece) (.ref ABadPiece) = some true)
    (xBadPiece_w : PySem.W.subIn K (.ref ABadPiece) (.ref AWholeError) = some true)
    (xTooMany_L : K.lookup ATooMany = some (excClassObj xTooMany_nm xTooMany_q ATooMany xTooMany_N xTooMany_bs [.type "OverflowError", .type "ArithmeticError", .type "Exception", .type "BaseException", .type "object"] true xTooMany_sn xTooMany_sub xTooMany_ab xTooMany_col xTooMany_dd xTooMany_m0 xTooMany_m1 xTooMany_m2 xTooMany_m3 xTooMany_m5 "OverflowError.__new__"))
    (xTooMany_sa : PySem.W.findIn K (.ref ATooMany) "__setattr__" = some (some (.builtin "object.__setattr__")))
    (xTooMany_ex : PySem.W.subIn K (.ref ATooMany) (.type "BaseException") = some true)
    (xTooMany_ty : PySem.W.typeIn K (.ref ATooMany) = some (.type "type"))
    (xTooMany_kC : PySem.W.keepIn K (.ref ATooMany) = true)
    (xTooMany_noA : PySem.W.findIn K (.ref ATooMany) "limit" = some none)
    (xTooMany_hg : PySem.W.findIn K (.ref ATooMany) "__getattribute__" = some (some (.builtin "BaseException.__getattribute__")))
    (xTooMany_hk : PySem.W.findIn K (.ref ATooMany) "__getattr__" = some none)
    (xTooMany_hd : PySem.W.hasDictIn K ATooMany = true)
    (xTooMany_ha : PySem.W.findIn K (.ref ATooMany) "__class__" = some (some (.builtin "object.__class__")))
    (xTooMany_hm : PySem.W.mroIn K ATooMany (.type "object") = some true)
    (xTooMany_is : PySem.W.isClsIn K ATooMany = true)
    (xTooMany_ss : PySem.W.subIn K (.ref ATooMany) (.ref ATooMany) = some true)
    (r_self_Steps : PySem.W.selfFirst K ASteps = true)
    (r_radd_Steps : PySem.W.findIn K (.ref ASteps) "__radd__" = some none)
    (r_c_Steps : PySem.W.fnIn K f_Steps_call = true)
    (r_ns_BadPiece : PySem.W.subIn K (.ref ABadPiece) (.type "StopIteration") = some false)
    (r_ns_BadPart : PySem.W.subIn K (.ref ABadPart) (.type "StopIteration") = some false)
    (xo_BadNumber_BadSteps : PySem.W.subIn K (.ref ABadNumber) (.ref ABadSteps) = some false)
    (xo_BadPart_BadSteps : PySem.W.subIn K (.ref ABadPart) (.ref ABadSteps) = some false)
    (xo_BadPart_BadNumber : PySem.W.subIn K (.ref ABadPart) (.ref ABadNumber) = some false)
    (xo_TooMany_BadSteps : PySem.W.subIn K (.ref ATooMany) (.ref ABadSteps) = some false)
    (xo_TooMany_BadNumber : PySem.W.subIn K (.ref ATooMany) (.ref ABadNumber) = some false)
    (xo_TooMany_BadPart : PySem.W.subIn K (.ref ATooMany) (.ref ABadPart) = some false)
    (xo_BadPart_BadPiece : PySem.W.subIn K (.ref ABadPart) (.ref ABadPiece) = some false)
    (xw_i : PySem.W.isClsIn K AWholeError = true)
    (xw_t : PySem.W.typeIn K (.ref AWholeError) = some (.type "type"))
    (xw_b : PySem.W.subIn K (.ref AWholeError) (.type "BaseException") = some true)
    : ∃ fd : FuncData, (∀ (s : Shared) (v : Value), BindsTo s fd ⟨[v], []⟩ [("_law_script", v)]) ∧ ∀ base : Heap, K.In base → base.Ns mainGlobals mg → FnOk P w K mg base CX0 15 fa fd ["_law_script"] (spLaw K) := by
  have e := hfa.symm.trans (PySem.W.mg_of X G a_law)
  cases e
  have F_is_integer := fun_mk (st := s_is_integer) l_is_integer c_is_integer k_is_integer
  have D_is_integer : DefAt K mg "is_integer" s_is_integer pm_is_integer := ⟨_, _, F_is_integer, PySem.W.mg_of X G a_is_integer, F_is_integer.binds (ps := pm_is_integer) fun _ _ _ _ _ _ us hl => match us, hl with | [_], _ => rfl⟩
  have F_is_between := fun_mk (st := s_is_between) l_is_between c_is_between k_is_between
  have D_is_between : DefAt K mg "is_between" s_is_between pm_is_between := ⟨_, _, F_is_between, PySem.W.mg_of X G a_is_between, F_is_between.binds (ps := pm_is_between) fun _ _ _ _ _ _ us hl => match us, hl with | [_, _, _], _ => rfl⟩
  have F_is_list := fun_mk (st := s_is_list) l_is_list c_is_list k_is_list
  have D_is_list : DefAt K mg "is_list" s_is_list pm_is_list := ⟨_, _, F_is_list, PySem.W.mg_of X G a_is_list, F_is_list.binds (ps := pm_is_list) fun _ _ _ _ _ _ us hl => match us, hl with | [_], _ => rfl⟩
  have F_is_list_of := fun_mk (st := s_is_list_of) l_is_list_of c_is_list_of k_is_list_of
  have D_is_list_of : DefAt K mg "is_list_of" s_is_list_of pm_is_list_of := ⟨_, _, F_is_list_of, PySem.W.mg_of X G a_is_list_of, F_is_list_of.binds (ps := pm_is_list_of) fun _ _ _ _ _ _ us hl => match us, hl with | [_, _, _], _ => rfl⟩
  have F_lesser := fun_mk (st := s_lesser) l_lesser c_lesser k_lesser
  have D_lesser : DefAt K mg "lesser" s_lesser pm_lesser := ⟨_, _, F_lesser, PySem.W.mg_of X G a_lesser, F_lesser.binds (ps := pm_lesser) fun _ _ _ _ _ _ us hl => match us, hl with | [_, _], _ => rfl⟩
  have F_told_of := fun_mk (st := s_told_of) l_told_of c_told_of k_told_of
  have D_told_of : DefAt K mg "told_of" s_told_of pm_told_of := ⟨_, _, F_told_of, PySem.W.mg_of X G a_told_of, F_told_of.binds (ps := pm_told_of) fun _ _ _ _ _ _ us hl => match us, hl with | [_, _], _ => rfl⟩
  have F_are_under := fun_mk (st := s_are_under) l_are_under c_are_under k_are_under
  have D_are_under : DefAt K mg "are_under" s_are_under pm_are_under := ⟨_, _, F_are_under, PySem.W.mg_of X G a_are_under, F_are_under.binds (ps := pm_are_under) fun _ _ _ _ _ _ us hl => match us, hl with | [_, _], _ => rfl⟩
  have F_check_cap := fun_mk (st := s_check_cap) l_check_cap c_check_cap k_check_cap
  have D_check_cap : DefAt K mg "check_cap" s_check_cap pm_check_cap := ⟨_, _, F_check_cap, PySem.W.mg_of X G a_check_cap, F_check_cap.binds (ps := pm_check_cap) fun _ _ _ _ _ _ us hl => match us, hl with | [_], _ => rfl⟩
  have F_check_room := fun_mk (st := s_check_room) l_check_room c_check_room k_check_room
  have D_check_room : DefAt K mg "check_room" s_check_room pm_check_room := ⟨_, _, F_check_room, PySem.W.mg_of X G a_check_room, F_check_room.binds (ps := pm_check_room) fun _ _ _ _ _ _ us hl => match us, hl with | [_], _ => rfl⟩
  have F_check_length := fun_mk (st := s_check_length) l_check_length c_check_length k_check_length
  have D_check_length : DefAt K mg "check_length" s_check_length pm_check_length := ⟨_, _, F_check_length, PySem.W.mg_of X G a_check_length, F_check_length.binds (ps := pm_check_length) fun _ _ _ _ _ _ us hl => match us, hl with | [_], _ => rfl⟩
  have F_check_goods := fun_mk (st := s_check_goods) l_check_goods c_check_goods k_check_goods
  have D_check_goods : DefAt K mg "check_goods" s_check_goods pm_check_goods := ⟨_, _, F_check_goods, PySem.W.mg_of X G a_check_goods, F_check_goods.binds (ps := pm_check_goods) fun _ _ _ _ _ _ us hl => match us, hl with | [_, _, _], _ => rfl⟩
  have F_goes := fun_mk (st := s_goes) l_goes c_goes k_goes
  have D_goes : DefAt K mg "goes" s_goes pm_goes := ⟨_, _, F_goes, PySem.W.mg_of X G a_goes, F_goes.binds (ps := pm_goes) fun _ _ _ _ _ _ us hl => match us, hl with | [_, _, _], _ => rfl⟩
  have F_reaches_of := fun_mk (st := s_reaches_of) l_reaches_of c_reaches_of k_reaches_of
  have D_reaches_of : DefAt K mg "reaches_of" s_reaches_of pm_reaches_of := ⟨_, _, F_reaches_of, PySem.W.mg_of X G a_reaches_of, F_reaches_of.binds (ps := pm_reaches_of) fun _ _ _ _ _ _ us hl => match us, hl with | [_, _], _ => rfl⟩
  have F_told_cut := fun_mk (st := s_told_cut) l_told_cut c_told_cut k_told_cut
  have D_told_cut : DefAt K mg "told_cut" s_told_cut pm_told_cut := ⟨_, _, F_told_cut, PySem.W.mg_of X G a_told_cut, F_told_cut.binds (ps := pm_told_cut) fun _ _ _ _ _ _ us hl => match us, hl with | [_, _, _], _ => rfl⟩
  have F_cuts := fun_mk (st := s_cuts) l_cuts c_cuts k_cuts
  have D_cuts : DefAt K mg "cuts" s_cuts pm_cuts := ⟨_, _, F_cuts, PySem.W.mg_of X G a_cuts, F_cuts.binds (ps := pm_cuts) fun _ _ _ _ _ _ us hl => match us, hl with | [_, _, _], _ => rfl⟩
  have F_needs_of := fun_mk (st := s_needs_of) l_needs_of c_needs_of k_needs_of
  have D_needs_of : DefAt K mg "needs_of" s_needs_of pm_needs_of := ⟨_, _, F_needs_of, PySem.W.mg_of X G a_needs_of, F_needs_of.binds (ps := pm_needs_of) fun _ _ _ _ _ _ us hl => match us, hl with | [_, _], _ => rfl⟩
  have F_next_pieces := fun_mk (st := s_next_pieces) l_next_pieces c_next_pieces k_next_pieces
  have D_next_pieces : DefAt K mg "next_pieces" s_next_pieces pm_next_pieces := ⟨_, _, F_next_pieces, PySem.W.mg_of X G a_next_pieces, F_next_pieces.binds (ps := pm_next_pieces) fun _ _ _ _ _ _ us hl => match us, hl with | [_, _, _], _ => rfl⟩
  have F_filled := fun_mk (st := s_filled) l_filled c_filled k_filled
  have D_filled : DefAt K mg "filled" s_filled pm_filled := ⟨_, _, F_filled, PySem.W.mg_of X G a_filled, F_filled.binds (ps := pm_filled) fun _ _ _ _ _ _ us hl => match us, hl with | [_, _], _ => rfl⟩
  have F__law_start := fun_mk (st := s__law_start) l__law_start c__law_start k__law_start
  have D__law_start : DefAt K mg "_law_start" s__law_start pm__law_start := ⟨_, _, F__law_start, PySem.W.mg_of X G a__law_start, F__law_start.binds (ps := pm__law_start) fun _ _ _ _ _ _ us hl => match us, hl with | [_], _ => rfl⟩
  have F__law_draw := fun_mk (st := s__law_draw) l__law_draw c__law_draw k__law_draw
  have D__law_draw : DefAt K mg "_law_draw" s__law_draw pm__law_draw := ⟨_, _, F__law_draw, PySem.W.mg_of X G a__law_draw, F__law_draw.binds (ps := pm__law_draw) fun _ _ _ _ _ _ us hl => match us, hl with | [_, _, _], _ => rfl⟩
  have F__law_rising := fun_mk (st := s__law_rising) l__law_rising c__law_rising k__law_rising
  have D__law_rising : DefAt K mg "_law_rising" s__law_rising pm__law_rising := ⟨_, _, F__law_rising, PySem.W.mg_of X G a__law_rising, F__law_rising.binds (ps := pm__law_rising) fun _ _ _ _ _ _ us hl => match us, hl with | [_, _, _, _], _ => rfl⟩
  have F__law_told := fun_mk (st := s__law_told) l__law_told c__law_told k__law_told
  have D__law_told : DefAt K mg "_law_told" s__law_told pm__law_told := ⟨_, _, F__law_told, PySem.W.mg_of X G a__law_told, F__law_told.binds (ps := pm__law_told) fun _ _ _ _ _ _ us hl => match us, hl with | [_, _], _ => rfl⟩
  have F__law_cuts := fun_mk (st := s__law_cuts) l__law_cuts c__law_cuts k__law_cuts
  have D__law_cuts : DefAt K mg "_law_cuts" s__law_cuts pm__law_cuts := ⟨_, _, F__law_cuts, PySem.W.mg_of X G a__law_cuts, F__law_cuts.binds (ps := pm__law_cuts) fun _ _ _ _ _ _ us hl => match us, hl with | [_, _, _, _], _ => rfl⟩
  have F__law_first := fun_mk (st := s__law_first) l__law_first c__law_first k__law_first
  have D__law_first : DefAt K mg "_law_first" s__law_first pm__law_first := ⟨_, _, F__law_first, PySem.W.mg_of X G a__law_first, F__law_first.binds (ps := pm__law_first) fun _ _ _ _ _ _ us hl => match us, hl with | [_, _], _ => rfl⟩
  have F__law_rows := fun_mk (st := s__law_rows) l__law_rows c__law_rows k__law_rows
  have D__law_rows : DefAt K mg "_law_rows" s__law_rows pm__law_rows := ⟨_, _, F__law_rows, PySem.W.mg_of X G a__law_rows, F__law_rows.binds (ps := pm__law_rows) fun _ _ _ _ _ _ us hl => match us, hl with | [_, _], _ => rfl⟩
  have F_BadPart_init := fun_mk (st := s_BadPart_init) l_BadPart_init c_BadPart_init k_BadPart_init
  have F_BadNumber_init := fun_mk (st := s_BadNumber_init) l_BadNumber_init c_BadNumber_init k_BadNumber_init
  have F_BadSteps_init := fun_mk (st := s_BadSteps_init) l_BadSteps_init c_BadSteps_init k_BadSteps_init
  have F_BadPiece_init := fun_mk (st := s_BadPiece_init) l_BadPiece_init c_BadPiece_init k_BadPiece_init
  have F_TooMany_init := fun_mk (st := s_TooMany_init) l_TooMany_init c_TooMany_init k_TooMany_init
  have F_Steps_init := fun_mk (st := s_Steps_init) l_Steps_init c_Steps_init k_Steps_init
  have M_Steps_init : MethAt K ASteps "__init__" "Steps.__init__" s_Steps_init pm_Steps_init := ⟨_, _, F_Steps_init, a_Steps_init, i_Steps_init, F_Steps_init.binds (ps := pm_Steps_init) fun _ _ _ _ _ _ us hl => match us, hl with | [_, _], _ => rfl⟩
  have F_Steps_call := fun_mk (st := s_Steps_call) l_Steps_call c_Steps_call k_Steps_call
  have M_Steps_call : MethAt K ASteps "__call__" "Steps.__call__" s_Steps_call pm_Steps_call := ⟨_, _, F_Steps_call, a_Steps_call, i_Steps_call, F_Steps_call.binds (ps := pm_Steps_call) fun _ _ _ _ _ _ us hl => match us, hl with | [_, _], _ => rfl⟩
  have F_Steps_len := fun_mk (st := s_Steps_len) l_Steps_len c_Steps_len k_Steps_len
  have M_Steps_len : MethAt K ASteps "__len__" "Steps.__len__" s_Steps_len pm_Steps_len := ⟨_, _, F_Steps_len, a_Steps_len, i_Steps_len, F_Steps_len.binds (ps := pm_Steps_len) fun _ _ _ _ _ _ us hl => match us, hl with | [_], _ => rfl⟩
  have F_Steps_contains := fun_mk (st := s_Steps_contains) l_Steps_contains c_Steps_contains k_Steps_contains
  have M_Steps_contains : MethAt K ASteps "__contains__" "Steps.__contains__" s_Steps_contains pm_Steps_contains := ⟨_, _, F_Steps_contains, a_Steps_contains, i_Steps_contains, F_Steps_contains.binds (ps := pm_Steps_contains) fun _ _ _ _ _ _ us hl => match us, hl with | [_, _], _ => rfl⟩
  have F_Steps_le := fun_mk (st := s_Steps_le) l_Steps_le c_Steps_le k_Steps_le
  have M_Steps_le : MethAt K ASteps "__le__" "Steps.__le__" s_Steps_le pm_Steps_le := ⟨_, _, F_Steps_le, a_Steps_le, i_Steps_le, F_Steps_le.binds (ps := pm_Steps_le) fun _ _ _ _ _ _ us hl => match us, hl with | [_, _], _ => rfl⟩
  have F_Steps_add := fun_mk (st := s_Steps_add) l_Steps_add c_Steps_add k_Steps_add
  have M_Steps_add : MethAt K ASteps "__add__" "Steps.__add__" s_Steps_add pm_Steps_add := ⟨_, _, F_Steps_add, a_Steps_add, i_Steps_add, F_Steps_add.binds (ps := pm_Steps_add) fun _ _ _ _ _ _ us hl => match us, hl with | [_, _], _ => rfl⟩
  have F_Steps_eq := fun_mk (st := s_Steps_eq) l_Steps_eq c_Steps_eq k_Steps_eq
  have M_Steps_eq : MethAt K ASteps "__eq__" "Steps.__eq__" s_Steps_eq pm_Steps_eq := ⟨_, _, F_Steps_eq, a_Steps_eq, i_Steps_eq, F_Steps_eq.binds (ps := pm_Steps_eq) fun _ _ _ _ _ _ us hl => match us, hl with | [_, _], _ => rfl⟩
  have F_Room_init := fun_mk (st := s_Room_init) l_Room_init c_Room_init k_Room_init
  have M_Room_init : MethAt K ARoom "__init__" "Room.__init__" s_Room_init pm_Room_init := ⟨_, _, F_Room_init, a_Room_init, i_Room_init, F_Room_init.binds (ps := pm_Room_init) fun _ _ _ _ _ _ us hl => match us, hl with | [_, _, _], _ => rfl⟩
  have F_Room_told := fun_mk (st := s_Room_told) l_Room_told c_Room_told k_Room_told
  have M_Room_told : MethAt K ARoom "told" "Room.told" s_Room_told pm_Room_told := ⟨_, _, F_Room_told, a_Room_told, i_Room_told, F_Room_told.binds (ps := pm_Room_told) fun _ _ _ _ _ _ us hl => match us, hl with | [_, _], _ => rfl⟩
  have F_Room_reach := fun_mk (st := s_Room_reach) l_Room_reach c_Room_reach k_Room_reach
  have M_Room_reach : MethAt K ARoom "reach" "Room.reach" s_Room_reach pm_Room_reach := ⟨_, _, F_Room_reach, a_Room_reach, i_Room_reach, F_Room_reach.binds (ps := pm_Room_reach) fun _ _ _ _ _ _ us hl => match us, hl with | [_, _, _], _ => rfl⟩
  have F_Room_top := fun_mk (st := s_Room_top) l_Room_top c_Room_top k_Room_top
  have M_Room_top : MethAt K ARoom "top" "Room.top" s_Room_top pm_Room_top := ⟨_, _, F_Room_top, a_Room_top, i_Room_top, F_Room_top.binds (ps := pm_Room_top) fun _ _ _ _ _ _ us hl => match us, hl with | [_, _], _ => rfl⟩
  have F_Room_le := fun_mk (st := s_Room_le) l_Room_le c_Room_le k_Room_le
  have M_Room_le : MethAt K ARoom "__le__" "Room.__le__" s_Room_le pm_Room_le := ⟨_, _, F_Room_le, a_Room_le, i_Room_le, F_Room_le.binds (ps := pm_Room_le) fun _ _ _ _ _ _ us hl => match us, hl with | [_, _], _ => rfl⟩
  have F_Room_eq := fun_mk (st := s_Room_eq) l_Room_eq c_Room_eq k_Room_eq
  have M_Room_eq : MethAt K ARoom "__eq__" "Room.__eq__" s_Room_eq pm_Room_eq := ⟨_, _, F_Room_eq, a_Room_eq, i_Room_eq, F_Room_eq.binds (ps := pm_Room_eq) fun _ _ _ _ _ _ us hl => match us, hl with | [_, _], _ => rfl⟩
  have T : Txt K mg ⟨ABadPart, ABadNumber, ABadSteps, ABadPiece, ATooMany, AWholeError, ASteps, ARoom⟩ :=
    { n_isinstance := PySem.W.mg_none_of X G n_isinstance,
      n_int := PySem.W.mg_none_of X G n_int,
      n_bool := PySem.W.mg_none_of X G n_bool,
      n_list := PySem.W.mg_none_of X G n_list,
      n_tuple := PySem.W.mg_none_of X G n_tuple,
      n_len := PySem.W.mg_none_of X G n_len,
      n_range := PySem.W.mg_none_of X G n_range,
      n_max := PySem.W.mg_none_of X G n_max,
      n_min := PySem.W.mg_none_of X G n_min,
      n_abs := PySem.W.mg_none_of X G n_abs,
      n_enumerate := PySem.W.mg_none_of X G n_enumerate,
      n_all := PySem.W.mg_none_of X G n_all,
      n_sorted := PySem.W.mg_none_of X G n_sorted,
      n_reversed := PySem.W.mg_none_of X G n_reversed,
      g_MOST_BOUNDS := ⟨_, PySem.W.mg_of X G v_MOST_BOUNDS⟩,
      g_MOST_UNITS := ⟨_, PySem.W.mg_of X G v_MOST_UNITS⟩,
      g_MOST_CAP := ⟨_, PySem.W.mg_of X G v_MOST_CAP⟩,
      g_MOST_LENGTH := ⟨_, PySem.W.mg_of X G v_MOST_LENGTH⟩,
      Steps := ⟨PySem.W.mg_of X G g_Steps, ⟨pg_Steps, hd_Steps, po_Steps, sa_Steps⟩, ha_Steps, s_hn, s_tk, hm_Steps, ne_Steps, is_Steps, ty_Steps, tup_Steps, lst_Steps, int_Steps, str_Steps⟩,
      s_bounds := na_Steps_bounds,
      Room := ⟨PySem.W.mg_of X G g_Room, ⟨pg_Room, hd_Room, po_Room, sa_Room⟩, ha_Room, s_hn, s_tk, hm_Room, ne_Room, is_Room, ty_Room, tup_Room, lst_Room, int_Room, str_Room⟩,
      r_size := na_Room_size,
      r_steps := na_Room_steps,
      BadPart := ⟨⟨⟨_, _, _, _, _, _, _, _, _, _, _, _, _, _, _, xBadPart_L, ve_one⟩, xBadPart_sa, xBadPart_ex, xBadPart_ty, xBadPart_kC⟩, PySem.W.mg_of X G g_BadPart, xBadPart_noA, ⟨xBadPart_hg, xBadPart_hk, xBadPart_ex, xBadPart_hd, xBadPart_ha, s_hn, s_tk, xBadPart_hm⟩, _, a_BadPart_init, i_BadPart_init, _, F_BadPart_init, F_BadPart_init.binds (ps := ["self", "part"]) fun _ _ _ _ _ _ us hl => match us, hl with | [_, _], _ => rfl⟩,
      BadNumber := ⟨⟨⟨_, _, _, _, _, _, _, _, _, _, _, _, _, _, _, xBadNumber_L, ve_one⟩, xBadNumber_sa, xBadNumber_ex, xBadNumber_ty, xBadNumber_kC⟩, PySem.W.mg_of X G g_BadNumber, xBadNumber_noA, ⟨xBadNumber_hg, xBadNumber_hk, xBadNumber_ex, xBadNumber_hd, xBadNumber_ha, s_hn, s_tk, xBadNumber_hm⟩, _, a_BadNumber_init, i_BadNumber_init, _, F_BadNumber_init, F_BadNumber_init.binds (ps := ["self", "number"]) fun _ _ _ _ _ _ us hl => match us, hl with | [_, _], _ => rfl⟩,
      BadSteps := ⟨⟨⟨_, _, _, _, _, _, _, _, _, _, _, _, _, _, _, xBadSteps_L, ve_one⟩, xBadSteps_sa, xBadSteps_ex, xBadSteps_ty, xBadSteps_kC⟩, PySem.W.mg_of X G g_BadSteps, xBadSteps_noA, ⟨xBadSteps_hg, xBadSteps_hk, xBadSteps_ex, xBadSteps_hd, xBadSteps_ha, s_hn, s_tk, xBadSteps_hm⟩, _, a_BadSteps_init, i_BadSteps_init, _, F_BadSteps_init, F_BadSteps_init.binds (ps := ["self", "index"]) fun _ _ _ _ _ _ us hl => match us, hl with | [_, _], _ => rfl⟩,
      BadPiece := ⟨⟨⟨_, _, _, _, _, _, _, _, _, _, _, _, _, _, _, xBadPiece_L, ve_one⟩, xBadPiece_sa, xBadPiece_ex, xBadPiece_ty, xBadPiece_kC⟩, PySem.W.mg_of X G g_BadPiece, xBadPiece_noA, ⟨xBadPiece_hg, xBadPiece_hk, xBadPiece_ex, xBadPiece_hd, xBadPiece_ha, s_hn, s_tk, xBadPiece_hm⟩, _, a_BadPiece_init, i_BadPiece_init, _, F_BadPiece_init, F_BadPiece_init.binds (ps := ["self", "index"]) fun _ _ _ _ _ _ us hl => match us, hl with | [_, _], _ => rfl⟩,
      TooMany := ⟨⟨⟨_, _, _, _, _, _, _, _, _, _, _, _, _, _, xTooMany_L⟩, xTooMany_sa, xTooMany_ex, xTooMany_ty, xTooMany_kC⟩, PySem.W.mg_of X G g_TooMany, xTooMany_noA, ⟨xTooMany_hg, xTooMany_hk, xTooMany_ex, xTooMany_hd, xTooMany_ha, s_hn, s_tk, xTooMany_hm⟩, _, a_TooMany_init, i_TooMany_init, _, F_TooMany_init, F_TooMany_init.binds (ps := ["self", "limit"]) fun _ _ _ _ _ _ us hl => match us, hl with | [_, _], _ => rfl⟩,
      self_Steps := r_self_Steps,
      radd_Steps := r_radd_Steps,
      c_Steps := fun g h => by rw [a_Steps_call] at h; cases h; exact r_c_Steps,
      ns_BadPiece := r_ns_BadPiece,
      ns_BadPart := r_ns_BadPart,
      x_ss := exm_ref xBadSteps_ex xBadSteps_is xBadSteps_ty xBadSteps_ss,
      x_ns := exm_ref xBadSteps_ex xBadSteps_is xBadSteps_ty xo_BadNumber_BadSteps,
      x_nn := exm_ref xBadNumber_ex xBadNumber_is xBadNumber_ty xBadNumber_ss,
      x_ps := exm_ref xBadSteps_ex xBadSteps_is xBadSteps_ty xo_BadPart_BadSteps,
      x_pn := exm_ref xBadNumber_ex xBadNumber_is xBadNumber_ty xo_BadPart_BadNumber,
      x_pp := exm_ref xBadPart_ex xBadPart_is xBadPart_ty xBadPart_ss,
      x_ms := exm_ref xBadSteps_ex xBadSteps_is xBadSteps_ty xo_TooMany_BadSteps,
      x_mn := exm_ref xBadNumber_ex xBadNumber_is xBadNumber_ty xo_TooMany_BadNumber,
      x_mp := exm_ref xBadPart_ex xBadPart_is xBadPart_ty xo_TooMany_BadPart,
      x_mm := exm_ref xTooMany_ex xTooMany_is xTooMany_ty xTooMany_ss,
      x_qq := exm_ref xBadPiece_ex xBadPiece_is xBadPiece_ty xBadPiece_ss,
      x_pq := exm_ref xBadPiece_ex xBadPiece_is xBadPiece_ty xo_BadPart_BadPiece }
  exact ⟨PySem.W.fnOf "law" "law" (defArgs s_law) (defBody s_law) (defScope s_law) .none kV_law dc_law pm_law_ an_law cd_law ct_law, fun s v => .of_eq rfl, fun base _ _ =>
    law_ok T D_is_integer D_is_between D_is_list D_is_list_of D_lesser D_told_of D_are_under D_check_cap D_check_room D_check_length D_check_goods D_goes D_reaches_of D_told_cut D_cuts D_needs_of D_next_pieces D_filled D__law_start D__law_draw D__law_rising D__law_told D__law_cuts D__law_first D__law_rows M_Steps_init M_Steps_call M_Steps_len M_Steps_contains M_Steps_le M_Steps_add M_Steps_eq M_Room_init M_Room_told M_Room_reach M_Room_top M_Room_le M_Room_eq mk_Steps kc_Steps mk_Room kc_Room  (fun_mk (st := s_law) l_law c_law k_law)⟩
theorem walk {l : PySem.W.OpenLaw} {q : Program} {loose : List Str} {XP : (Str → Option Value) → Heap → Prop} {YP : World → Heap → Prop} {d : DefRec} {K : Params → PySem.W.Frag} (hn : l.most = some 63) (hdf : d.params.defaults = [])
    (hY : ∀ (w : World) (h : Heap), YP w h → (K w.params).In h)
    (F : ∀ (w : World) (mg : Str → Option Value) (fa : Addr) (h : Heap), (K w.params).In h → h.Ns mainGlobals mg → mg d.name = some (.ref fa) →
      ∃ fd : FuncData, (∀ (s : Shared) (u : Value), BindsTo s fd ⟨[u], []⟩ [("_law_script", u)]) ∧ ∀ base : Heap, (K w.params).In base → base.Ns mainGlobals mg → FnOk l.prog w (K w.params) mg base CX0 15 fa fd ["_law_script"] (spLaw (K w.params))) :
    PySem.W.WalkO q loose XP YP l.row.toRowW d [] (fun f vs => PySem.call f vs) :=
  L2.walk_of (n := 63) (k := 15) (x := "_law_script") (CX := fun _ => CX0) (sp := fun w => spLaw (K w.params)) hn (by decide) hdf ⟨rfl, by decide, by decide⟩ hY F (fun _ _ a ns hl _ hS => ⟨a, ns, rfl, hS, hl, fun _ => rfl⟩) fun _ _ _ _ _ z => z
end K70

open PySem PySem.W PyProof.Rows in
set_option maxRecDepth 100000 in
set_option maxHeartbeats 0 in
theorem PySem.Challenge.cw_wholeline_k70_whole_rooms_of_lines_holds : PySem.Challenge.rw_wholeline_k70_whole_rooms_of_lines.Holds := by
  w_on; o_law; k_head; (case hw => w_witness2)
  k_fill
  refine K70.walk (l := PySem.Challenge.rw_wholeline_k70_whole_rooms_of_lines) rfl rfl (fun w h Y => PySem.W.kIn_of Y) ?F
  case F =>
    intro w mg fa h KX G hmg
    refine' K70.all_mk KX G hmg ?q_g_BadPart ?q_g_BadNumber ?q_g_BadSteps ?q_g_BadPiece ?q_g_TooMany ?q_g_WholeError ?q_g_Steps ?q_g_Room ?q_a_is_integer ?q_l_is_integer ?q_c_is_integer ?q_k_is_integer ?q_a_is_between ?q_l_is_between ?q_c_is_between ?q_k_is_between ?q_a_is_list ?q_l_is_list ?q_c_is_list ?q_k_is_list ?q_a_is_list_of ?q_l_is_list_of ?q_c_is_list_of ?q_k_is_list_of ?q_a_lesser ?q_l_lesser ?q_c_lesser ?q_k_lesser ?q_a_told_of ?q_l_told_of ?q_c_told_of ?q_k_told_of ?q_a_are_under ?q_l_are_under ?q_c_are_under ?q_k_are_under ?q_a_check_cap ?q_l_check_cap ?q_c_check_cap ?q_k_check_cap ?q_a_check_room ?q_l_check_room ?q_c_check_room ?q_k_check_room ?q_a_check_length ?q_l_check_length ?q_c_check_length ?q_k_check_length ?q_a_check_goods ?q_l_check_goods ?q_c_check_goods ?q_k_check_goods ?q_a_goes ?q_l_goes ?q_c_goes ?q_k_goes ?q_a_reaches_of ?q_l_reaches_of ?q_c_reaches_of ?q_k_reaches_of ?q_a_told_cut ?q_l_told_cut ?q_c_told_cut ?q_k_told_cut ?q_a_cuts ?q_l_cuts ?q_c_cuts ?q_k_cuts ?q_a_needs_of ?q_l_needs_of ?q_c_needs_of ?q_k_needs_of ?q_a_next_pieces ?q_l_next_pieces ?q_c_next_pieces ?q_k_next_pieces ?q_a_filled ?q_l_filled ?q_c_filled ?q_k_filled ?q_a__law_start ?q_l__law_start ?q_c__law_start ?q_k__law_start ?q_a__law_draw ?q_l__law_draw ?q_c__law_draw ?q_k__law_draw ?q_a__law_rising ?q_l__law_rising ?q_c__law_rising ?q_k__law_rising ?q_a__law_told ?q_l__law_told ?q_c__law_told ?q_k__law_told ?q_a__law_cuts ?q_l__law_cuts ?q_c__law_cuts ?q_k__law_cuts ?q_a__law_first ?q_l__law_first ?q_c__law_first ?q_k__law_first ?q_a__law_rows ?q_l__law_rows ?q_c__law_rows ?q_k__law_rows ?q_a_law ?q_l_law ?q_c_law ?q_k_law ?q_a_BadPart_init ?q_i_BadPart_init ?q_l_BadPart_init ?q_c_BadPart_init ?q_k_BadPart_init ?q_a_BadNumber_init ?q_i_BadNumber_init ?q_l_BadNumber_init ?q_c_BadNumber_init ?q_k_BadNumber_init ?q_a_BadSteps_init ?q_i_BadSteps_init ?q_l_BadSteps_init ?q_c_BadSteps_init ?q_k_BadSteps_init ?q_a_BadPiece_init ?q_i_BadPiece_init ?q_l_BadPiece_init ?q_c_BadPiece_init ?q_k_BadPiece_init ?q_a_TooMany_init ?q_i_TooMany_init ?q_l_TooMany_init ?q_c_TooMany_init ?q_k_TooMany_init ?q_a_Steps_init ?q_i_Steps_init ?q_l_Steps_init ?q_c_Steps_init ?q_k_Steps_init ?q_a_Steps_call ?q_i_Steps_call ?q_l_Steps_call ?q_c_Steps_call ?q_k_Steps_call ?q_a_Steps_len ?q_i_Steps_len ?q_l_Steps_len ?q_c_Steps_len ?q_k_Steps_len ?q_a_Steps_contains ?q_i_Steps_contains ?q_l_Steps_contains ?q_c_Steps_contains ?q_k_Steps_contains ?q_a_Steps_le ?q_i_Steps_le ?q_l_Steps_le ?q_c_Steps_le ?q_k_Steps_le ?q_a_Steps_add ?q_i_Steps_add ?q_l_Steps_add ?q_c_Steps_add ?q_k_Steps_add ?q_a_Steps_eq ?q_i_Steps_eq ?q_l_Steps_eq ?q_c_Steps_eq ?q_k_Steps_eq ?q_a_Room_init ?q_i_Room_init ?q_l_Room_init ?q_c_Room_init ?q_k_Room_init ?q_a_Room_told ?q_i_Room_told ?q_l_Room_told ?q_c_Room_told ?q_k_Room_told ?q_a_Room_reach ?q_i_Room_reach ?q_l_Room_reach ?q_c_Room_reach ?q_k_Room_reach ?q_a_Room_top ?q_i_Room_top ?q_l_Room_top ?q_c_Room_top ?q_k_Room_top ?q_a_Room_le ?q_i_Room_le ?q_l_Room_le ?q_c_Room_le ?q_k_Room_le ?q_a_Room_eq ?q_i_Room_eq ?q_l_Room_eq ?q_c_Room_eq ?q_k_Room_eq ?q_n_isinstance ?q_n_int ?q_n_bool ?q_n_list ?q_n_tuple ?q_n_len ?q_n_range ?q_n_max ?q_n_min ?q_n_abs ?q_n_enumerate ?q_n_all ?q_n_sorted ?q_n_reversed ?q_v_MOST_BOUNDS ?q_v_MOST_UNITS ?q_v_MOST_CAP ?q_v_MOST_LENGTH ?q_s_hn ?q_s_tk ?q_pg_Steps ?q_hd_Steps ?q_po_Steps ?q_sa_Steps ?q_ha_Steps ?q_hm_Steps ?q_ne_Steps ?q_is_Steps ?q_ty_Steps ?q_tup_Steps ?q_lst_Steps ?q_int_Steps ?q_str_Steps ?q_mk_Steps ?q_kc_Steps ?q_na_Steps_bounds ?q_pg_Room ?q_hd_Room ?q_po_Room ?q_sa_Room ?q_ha_Room ?q_hm_Room ?q_ne_Room ?q_is_Room ?q_ty_Room ?q_tup_Room ?q_lst_Room ?q_int_Room ?q_str_Room ?q_mk_Room ?q_kc_Room ?q_na_Room_size ?q_na_Room_steps ?q_xBadPart_L ?q_xBadPart_sa ?q_xBadPart_ex ?q_xBadPart_ty ?q_xBadPart_kC ?q_xBadPart_noA ?q_xBadPart_hg ?q_xBadPart_hk ?q_xBadPart_hd ?q_xBadPart_ha ?q_xBadPart_hm ?q_xBadPart_is ?q_xBadPart_ss ?q_xBadPart_w ?q_xBadNumber_L ?q_xBadNumber_sa ?q_xBadNumber_ex ?q_xBadNumber_ty ?q_xBadNumber_kC ?q_xBadNumber_noA ?q_xBadNumber_hg ?q_xBadNumber_hk ?q_xBadNumber_hd ?q_xBadNumber_ha ?q_xBadNumber_hm ?q_xBadNumber_is ?q_xBadNumber_ss ?q_xBadNumber_w ?q_xBadSteps_L ?q_xBadSteps_sa ?q_xBadSteps_ex ?q_xBadSteps_ty ?q_xBadSteps_kC ?q_xBadSteps_noA ?q_xBadSteps_hg ?q_xBadSteps_hk ?q_xBadSteps_hd ?q_xBadSteps_ha ?q_xBadSteps_hm ?q_xBadSteps_is ?q_xBadSteps_ss ?q_xBadSteps_w ?q_xBadPiece_L ?q_xBadPiece_sa ?q_xBadPiece_ex ?q_xBadPiece_ty ?q_xBadPiece_kC ?q_xBadPiece_noA ?q_xBadPiece_hg ?q_xBadPiece_hk ?q_xBadPiece_hd ?q_xBadPiece_ha ?q_xBadPiece_hm ?q_xBadPiece_is ?q_xBadPiece_ss ?q_xBadPiece_w ?q_xTooMany_L ?q_xTooMany_sa ?q_xTooMany_ex ?q_xTooMany_ty ?q_xTooMany_kC ?q_xTooMany_noA ?q_xTooMany_hg ?q_xTooMany_hk ?q_xTooMany_hd ?q_xTooMany_ha ?q_xTooMany_hm ?q_xTooMany_is ?q_xTooMany_ss ?q_r_self_Steps ?q_r_radd_Steps ?q_r_c_Steps ?q_r_ns_BadPiece ?q_r_ns_BadPart ?q_xo_BadNumber_BadSteps ?q_xo_BadPart_BadSteps ?q_xo_BadPart_BadNumber ?q_xo_TooMany_BadSteps ?q_xo_TooMany_BadNumber ?q_xo_TooMany_BadPart ?q_xo_BadPart_BadPiece ?q_xw_i ?q_xw_t ?q_xw_b
    (case q_g_BadPart => k_is)
    (case q_g_BadNumber => k_is)
    (case q_g_BadSteps => k_is)
    (case q_g_BadPiece => k_is)
    (case q_g_TooMany => k_is)
    (case q_g_WholeError => k_is)
    (case q_g_Steps => k_is)
    (case q_g_Room => k_is)
    (case q_a_is_integer => k_is)
    (case q_l_is_integer => k_is)
    (case q_c_is_integer => k_is)
    (case q_k_is_integer => k_is)
    (case q_a_is_between => k_is)
    (case q_l_is_between => k_is)
    (case q_c_is_between => k_is)
    (case q_k_is_between => k_is)
    (case q_a_is_list => k_is)
    (case q_l_is_list => k_is)
    (case q_c_is_list => k_is)
    (case q_k_is_list => k_is)
    (case q_a_is_list_of => k_is)
    (case q_l_is_list_of => k_is)
    (case q_c_is_list_of => k_is)
    (case q_k_is_list_of => k_is)
    (case q_a_lesser => k_is)
    (case q_l_lesser => k_is)
    (case q_c_lesser => k_is)
    (case q_k_lesser => k_is)
    (case q_a_told_of => k_is)
    (case q_l_told_of => k_is)
    (case q_c_told_of => k_is)
    (case q_k_told_of => k_is)
    (case q_a_are_under => k_is)
    (case q_l_are_under => k_is)
    (case q_c_are_under => k_is)
    (case q_k_are_under => k_is)
    (case q_a_check_cap => k_is)
    (case q_l_check_cap => k_is)
    (case q_c_check_cap => k_is)
    (case q_k_check_cap => k_is)
    (case q_a_check_room => k_is)
    (case q_l_check_room => k_is)
    (case q_c_check_room => k_is)
    (case q_k_check_room => k_is)
    (case q_a_check_length => k_is)
    (case q_l_check_length => k_is)
    (case q_c_check_length => k_is)
    (case q_k_check_length => k_is)
    (case q_a_check_goods => k_is)
    (case q_l_check_goods => k_is)
    (case q_c_check_goods => k_is)
    (case q_k_check_goods => k_is)
    (case q_a_goes => k_is)
    (case q_l_goes => k_is)
    (case q_c_goes => k_is)
    (case q_k_goes => k_is)
    (case q_a_reaches_of => k_is)
    (case q_l_reaches_of => k_is)
    (case q_c_reaches_of => k_is)
    (case q_k_reaches_of => k_is)
    (case q_a_told_cut => k_is)
    (case q_l_told_cut => k_is)
    (case q_c_told_cut => k_is)
    (case q_k_told_cut => k_is)
    (case q_a_cuts => k_is)
    (case q_l_cuts => k_is)
    (case q_c_cuts => k_is)
    (case q_k_cuts => k_is)
    (case q_a_needs_of => k_is)
    (case q_l_needs_of => k_is)
    (case q_c_needs_of => k_is)
    (case q_k_needs_of => k_is)
    (case q_a_next_pieces => k_is)
    (case q_l_next_pieces => k_is)
    (case q_c_next_pieces => k_is)
    (case q_k_next_pieces => k_is)
    (case q_a_filled => k_is)
    (case q_l_filled => k_is)
    (case q_c_filled => k_is)
    (case q_k_filled => k_is)
    (case q_a__law_start => k_is)
    (case q_l__law_start => k_is)
    (case q_c__law_start => k_is)
    (case q_k__law_start => k_is)
    (case q_a__law_draw => k_is)
    (case q_l__law_draw => k_is)
    (case q_c__law_draw => k_is)
    (case q_k__law_draw => k_is)
    (case q_a__law_rising => k_is)
    (case q_l__law_rising => k_is)
    (case q_c__law_rising => k_is)
    (case q_k__law_rising => k_is)
    (case q_a__law_told => k_is)
    (case q_l__law_told => k_is)
    (case q_c__law_told => k_is)
    (case q_k__law_told => k_is)
    (case q_a__law_cuts => k_is)
    (case q_l__law_cuts => k_is)
    (case q_c__law_cuts => k_is)
    (case q_k__law_cuts => k_is)
    (case q_a__law_first => k_is)
    (case q_l__law_first => k_is)
    (case q_c__law_first => k_is)
    (case q_k__law_first => k_is)
    (case q_a__law_rows => k_is)
    (case q_l__law_rows => k_is)
    (case q_c__law_rows => k_is)
    (case q_k__law_rows => k_is)
    (case q_a_law => k_is)
    (case q_l_law => k_is)
    (case q_c_law => k_is)
    (case q_k_law => k_is)
    (case q_a_BadPart_init => k_is)
    (case q_i_BadPart_init => k_is)
    (case q_l_BadPart_init => k_is)
    (case q_c_BadPart_init => k_is)
    (case q_k_BadPart_init => k_is)
    (case q_a_BadNumber_init => k_is)
    (case q_i_BadNumber_init => k_is)
    (case q_l_BadNumber_init => k_is)
    (case q_c_BadNumber_init => k_is)
    (case q_k_BadNumber_init => k_is)
    (case q_a_BadSteps_init => k_is)
    (case q_i_BadSteps_init => k_is)
    (case q_l_BadSteps_init => k_is)
    (case q_c_BadSteps_init => k_is)
    (case q_k_BadSteps_init => k_is)
    (case q_a_BadPiece_init => k_is)
    (case q_i_BadPiece_init => k_is)
    (case q_l_BadPiece_init => k_is)
    (case q_c_BadPiece_init => k_is)
    (case q_k_BadPiece_init => k_is)
    (case q_a_TooMany_init => k_is)
    (case q_i_TooMany_init => k_is)
    (case q_l_TooMany_init => k_is)
    (case q_c_TooMany_init => k_is)
    (case q_k_TooMany_init => k_is)
    (case q_a_Steps_init => k_is)
    (case q_i_Steps_init => k_is)
    (case q_l_Steps_init => k_is)
    (case q_c_Steps_init => k_is)
    (case q_k_Steps_init => k_is)
    (case q_a_Steps_call => k_is)
    (case q_i_Steps_call => k_is)
    (case q_l_Steps_call => k_is)
    (case q_c_Steps_call => k_is)
    (case q_k_Steps_call => k_is)
    (case q_a_Steps_len => k_is)
    (case q_i_Steps_len => k_is)
    (case q_l_Steps_len => k_is)
    (case q_c_Steps_len => k_is)
    (case q_k_Steps_len => k_is)
    (case q_a_Steps_contains => k_is)
    (case q_i_Steps_contains => k_is)
    (case q_l_Steps_contains => k_is)
    (case q_c_Steps_contains => k_is)
    (case q_k_Steps_contains => k_is)
    (case q_a_Steps_le => k_is)
    (case q_i_Steps_le => k_is)
    (case q_l_Steps_le => k_is)
    (case q_c_Steps_le => k_is)
    (case q_k_Steps_le => k_is)
    (case q_a_Steps_add => k_is)
    (case q_i_Steps_add => k_is)
    (case q_l_Steps_add => k_is)
    (case q_c_Steps_add => k_is)
    (case q_k_Steps_add => k_is)
    (case q_a_Steps_eq => k_is)
    (case q_i_Steps_eq => k_is)
    (case q_l_Steps_eq => k_is)
    (case q_c_Steps_eq => k_is)
    (case q_k_Steps_eq => k_is)
    (case q_a_Room_init => k_is)
    (case q_i_Room_init => k_is)
    (case q_l_Room_init => k_is)
    (case q_c_Room_init => k_is)
    (case q_k_Room_init => k_is)
    (case q_a_Room_told => k_is)
    (case q_i_Room_told => k_is)
    (case q_l_Room_told => k_is)
    (case q_c_Room_told => k_is)
    (case q_k_Room_told => k_is)
    (case q_a_Room_reach => k_is)
    (case q_i_Room_reach => k_is)
    (case q_l_Room_reach => k_is)
    (case q_c_Room_reach => k_is)
    (case q_k_Room_reach => k_is)
    (case q_a_Room_top => k_is)
    (case q_i_Room_top => k_is)
    (case q_l_Room_top => k_is)
    (case q_c_Room_top => k_is)
    (case q_k_Room_top => k_is)
    (case q_a_Room_le => k_is)
    (case q_i_Room_le => k_is)
    (case q_l_Room_le => k_is)
    (case q_c_Room_le => k_is)
    (case q_k_Room_le => k_is)
    (case q_a_Room_eq => k_is)
    (case q_i_Room_eq => k_is)
    (case q_l_Room_eq => k_is)
    (case q_c_Room_eq => k_is)
    (case q_k_Room_eq => k_is)
    (case q_n_isinstance => k_is)
    (case q_n_int => k_is)
    (case q_n_bool => k_is)
    (case q_n_list => k_is)
    (case q_n_tuple => k_is)
    (case q_n_len => k_is)
    (case q_n_range => k_is)
    (case q_n_max => k_is)
    (case q_n_min => k_is)
    (case q_n_abs => k_is)
    (case q_n_enumerate => k_is)
    (case q_n_all => k_is)
    (case q_n_sorted => k_is)
    (case q_n_reversed => k_is)
    (case q_v_MOST_BOUNDS => k_is)
    (case q_v_MOST_UNITS => k_is)
    (case q_v_MOST_CAP => k_is)
    (case q_v_MOST_LENGTH => k_is)
    (case q_s_hn => k_is)
    (case q_s_tk => k_is)
    (case q_pg_Steps => k_is)
    (case q_hd_Steps => k_is)
    (case q_po_Steps => k_is)
    (case q_sa_Steps => k_is)
    (case q_ha_Steps => k_is)
    (case q_hm_Steps => k_is)
    (case q_ne_Steps => k_is)
    (case q_is_Steps => k_is)
    (case q_ty_Steps => k_is)
    (case q_tup_Steps => k_is)
    (case q_lst_Steps => k_is)
    (case q_int_Steps => k_is)
    (case q_str_Steps => k_is)
    (case q_mk_Steps => k_is)
    (case q_kc_Steps => k_is)
    (case q_na_Steps_bounds => k_is)
    (case q_pg_Room => k_is)
    (case q_hd_Room => k_is)
    (case q_po_Room => k_is)
    (case q_sa_Room => k_is)
    (case q_ha_Room => k_is)
    (case q_hm_Room => k_is)
    (case q_ne_Room => k_is)
    (case q_is_Room => k_is)
    (case q_ty_Room => k_is)
    (case q_tup_Room => k_is)
    (case q_lst_Room => k_is)
    (case q_int_Room => k_is)
    (case q_str_Room => k_is)
    (case q_mk_Room => k_is)
    (case q_kc_Room => k_is)
    (case q_na_Room_size => k_is)
    (case q_na_Room_steps => k_is)
    (case q_xBadPart_L => k_is)
    (case q_xBadPart_sa => k_is)
    (case q_xBadPart_ex => k_is)
    (case q_xBadPart_ty => k_is)
    (case q_xBadPart_kC => k_is)
    (case q_xBadPart_noA => k_is)
    (case q_xBadPart_hg => k_is)
    (case q_xBadPart_hk => k_is)
    (case q_xBadPart_hd => k_is)
    (case q_xBadPart_ha => k_is)
    (case q_xBadPart_hm => k_is)
    (case q_xBadPart_is => k_is)
    (case q_xBadPart_ss => k_is)
    (case q_xBadPart_w => k_is)
    (case q_xBadNumber_L => k_is)
    (case q_xBadNumber_sa => k_is)
    (case q_xBadNumber_ex => k_is)
    (case q_xBadNumber_ty => k_is)
    (case q_xBadNumber_kC => k_is)
    (case q_xBadNumber_noA => k_is)
    (case q_xBadNumber_hg => k_is)
    (case q_xBadNumber_hk => k_is)
    (case q_xBadNumber_hd => k_is)
    (case q_xBadNumber_ha => k_is)
    (case q_xBadNumber_hm => k_is)
    (case q_xBadNumber_is => k_is)
    (case q_xBadNumber_ss => k_is)
    (case q_xBadNumber_w => k_is)
    (case q_xBadSteps_L => k_is)
    (case q_xBadSteps_sa => k_is)
    (case q_xBadSteps_ex => k_is)
    (case q_xBadSteps_ty => k_is)
    (case q_xBadSteps_kC => k_is)
    (case q_xBadSteps_noA => k_is)
    (case q_xBadSteps_hg => k_is)
    (case q_xBadSteps_hk => k_is)
    (case q_xBadSteps_hd => k_is)
    (case q_xBadSteps_ha => k_is)
    (case q_xBadSteps_hm => k_is)
    (case q_xBadSteps_is => k_is)
    (case q_xBadSteps_ss => k_is)
    (case q_xBadSteps_w => k_is)
    (case q_xBadPiece_L => k_is)
    (case q_xBadPiece_sa => k_is)
    (case q_xBadPiece_ex => k_is)
    (case q_xBadPiece_ty => k_is)
    (case q_xBadPiece_kC => k_is)
    (case q_xBadPiece_noA => k_is)
    (case q_xBadPiece_hg => k_is)
    (case q_xBadPiece_hk => k_is)
    (case q_xBadPiece_hd => k_is)
    (case q_xBadPiece_ha => k_is)
    (case q_xBadPiece_hm => k_is)
    (case q_xBadPiece_is => k_is)
    (case q_xBadPiece_ss => k_is)
    (case q_xBadPiece_w => k_is)
    (case q_xTooMany_L => k_is)
    (case q_xTooMany_sa => k_is)
    (case q_xTooMany_ex => k_is)
    (case q_xTooMany_ty => k_is)
    (case q_xTooMany_kC => k_is)
    (case q_xTooMany_noA => k_is)
    (case q_xTooMany_hg => k_is)
    (case q_xTooMany_hk => k_is)
    (case q_xTooMany_hd => k_is)
    (case q_xTooMany_ha => k_is)
    (case q_xTooMany_hm => k_is)
    (case q_xTooMany_is => k_is)
    (case q_xTooMany_ss => k_is)
    (case q_r_self_Steps => k_is)
    (case q_r_radd_Steps => k_is)
    (case q_r_c_Steps => k_is)
    (case q_r_ns_BadPiece => k_is)
    (case q_r_ns_BadPart => k_is)
    (case q_xo_BadNumber_BadSteps => k_is)
    (case q_xo_BadPart_BadSteps => k_is)
    (case q_xo_BadPart_BadNumber => k_is)
    (case q_xo_TooMany_BadSteps => k_is)
    (case q_xo_TooMany_BadNumber => k_is)
    (case q_xo_TooMany_BadPart => k_is)
    (case q_xo_BadPart_BadPiece => k_is)
    (case q_xw_i => k_is)
    (case q_xw_t => k_is)
    (case q_xw_b => k_is)
